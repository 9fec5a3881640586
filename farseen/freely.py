"""Sayings of free albums: what depths come to in the form of a saying.

The charts of such an album are the products of the rows of its first picture and any row of depths by itself, added up;
the depths are no sum of multiples of these rows.
"""

from farseen.charts import Below, Chart, Squares, never_below
from farseen.planes import first_minor, is_made_of, parts_of
from farseen.sayings import sum_in
from farseen.tables import dependence, rank


def _negative(rows):
    return [[-number for number in row] for row in rows]


def _columns_of(rows, depths):
    """For each row the sum of what it has and what the depths have, multiplied."""
    return [sum([number * depth for number, depth in zip(row, depths)]) for row in rows]


def _worth(rows, depths):
    """What the depths come to by these rows."""
    return sum([number * depth for number, depth in zip(_columns_of(rows, depths), depths)])


def _is_in_plane(plane, row):
    one, other = plane
    minor = first_minor(one, other)
    return is_made_of(minor, one, other, row, parts_of(minor, one, other, row))


def _unit_outside(plane):
    """The first row with a single 1 that is no sum of multiples of the rows of the plane."""
    size = len(plane[0])
    for at in range(size):
        row = [int(k == at) for k in range(size)]
        if not _is_in_plane(plane, row):
            return row
    return None


def _moved_outside(plane, rows, row):
    """A row outside of the plane that comes above 0 as this one does."""
    if not _is_in_plane(plane, row):
        return row
    unit, many = _unit_outside(plane), 1
    while True:
        moved = [many * number + its for number, its in zip(row, unit)]
        if _worth(rows, moved) > 0:
            return moved
        many = 2 * many


def _depths_above(plane, rows, gap, told):
    """Depths outside of the plane that come above the gap, where there are such: a row, so many times, over a number.

    What is told is whether the rows, each times -1, never come below 0: if so, the gap is below 0.
    """
    if isinstance(told, Below):
        row, many = _moved_outside(plane, rows, told.row), 1
        worth = _worth(rows, row)
        while many * many * worth <= gap:
            many = 2 * many
        return (row, many, 1)
    row, over = _unit_outside(plane), 1
    worth = _worth(rows, row)
    while worth <= gap * over * over:
        over = 2 * over
    return (row, 1, over)


def _null_rows(rows):
    """Rows that come to 0 with each of these rows, of which all such are sums of multiples."""
    size = len(rows[0])
    columns = [[row[at] for row in rows] for at in range(size)]
    heads = rank(rows).columns
    found = []
    for at in range(size):
        if at not in heads:
            parts = dependence([columns[head] for head in heads] + [columns[at]])
            row = [0] * size
            for head, part in zip(heads, parts):
                row[head] = part
            row[at] = parts[len(heads)]
            found.append(row)
    return found


class Form:
    """The form of a saying, and whether it comes below 0, and above."""

    def __init__(self, saying, pins):
        form = saying.form(pins)
        self.saying = saying
        self.rows, self.by = form.rows, form.by
        self.up = never_below(Chart(_negative(form.rows), form.by))
        self.down = never_below(form)

    def shown(self):
        """The terms of the form, or of the form times -1; None if it comes above 0 and below 0."""
        for told in (self.down, self.up):
            if isinstance(told, Squares):
                return told.terms
        return None


class FreeDepths:
    """What the depths in a picture come to in a form, and what they must come to."""

    def __init__(self, form, picture):
        self.asked = form
        self.plane = picture.rows
        self.taken = picture.products()
        # The sum is above, below, or just its number as the depths come above, below, or just to this.
        self.gap = (form.saying.number - sum_in(self.taken, form.saying.terms)) * form.by

    def can_be(self):
        """Whether the sum is below, just, above its number in some chart each."""
        below = isinstance(self.asked.down, Below) or self.gap > 0
        above = isinstance(self.asked.up, Below) or self.gap < 0
        return (below, below and above or self.gap == 0 and self.reaches_0(), above)

    def reaches_0(self):
        """Whether depths outside of the plane come to 0, if no depths come below 0, or none above."""
        rows = self.asked.rows
        inside = 2 - rank([_columns_of(rows, row) for row in self.plane]).many
        return len(rows) - rank(rows).many > inside

    def charts(self):
        """A chart with a sum below, charts that show one just at it, one above it; None for what cannot be.

        More than one of the three can be.
        """
        below, _, above = self.can_be()
        rows, low, high = self.asked.rows, None, None
        if below:
            low = self.chart_with(_depths_above(self.plane, _negative(rows), -self.gap, self.asked.down))
        if above:
            high = self.chart_with(_depths_above(self.plane, rows, self.gap, self.asked.up))
        if below and above:
            return (low, (low, high), high)
        return (low, (self.chart_at_0(),), high)

    def chart_at_0(self):
        """A chart whose depths come to 0."""
        row = [row for row in _null_rows(self.asked.rows) if not _is_in_plane(self.plane, row)][0]
        return self.chart_with((row, 1, 1))

    def chart_with(self, depths):
        """The chart of these depths: a row, so many times, over a number."""
        row, many, over = depths
        size = len(row)
        return Chart([[over * over * self.taken[a][b] + many * many * row[a] * row[b] for b in range(size)]
                      for a in range(size)], over * over)
