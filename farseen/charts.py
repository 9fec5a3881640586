"""Charts: the products of all steps between pins."""

from itertools import combinations
from farseen.checks import are_integers, common_divisor, is_integer, is_list, lowest, primitive
from farseen.errors import BadChart, Misfit
from farseen.guards import check_pins, check_step
from farseen.papers import Denial, Paper
from farseen.ratios import over, times
from farseen.tables import check_table, determinant, products_of


class Squares(Paper):
    """The terms, ratios above 0 and rows, whose products add up to a chart."""

    def __init__(self, terms):
        super().__init__("squares", terms)
        self.terms = self.parts[0]


class Below(Denial):
    """A row that comes below 0 in a chart."""

    def __init__(self, row):
        super().__init__("below", row)
        self.row = self.parts[0]


class Rest(Paper):
    """What is left of a chart is this row by itself times this ratio."""

    def __init__(self, ratio, row):
        super().__init__("rest", ratio, row)
        self.ratio, self.row = self.parts


class NoRest(Denial):
    """What is left of a chart is no such row: the pins show it."""

    def __init__(self, pins):
        super().__init__("norest", pins)
        self.pins = self.parts[0]


def _are_chart_rows(rows):
    if not is_list(rows) or not 2 <= len(rows) <= 6:
        return False
    size = len(rows)
    if not all([are_integers(row) and len(row) == size for row in rows]):
        return False
    return all([rows[a][b] == rows[b][a] for a in range(size) for b in range(a)])


class Chart:
    """The products of the steps from pin 0, all over one number."""

    def __init__(self, rows, by=1):
        if not _are_chart_rows(rows):
            raise BadChart("rows")
        if not is_integer(by) or by < 1:
            raise BadChart("by")
        divisor = common_divisor([by] + [number for row in rows for number in row])
        self.rows = tuple([tuple([number // divisor for number in row]) for row in rows])
        self.by = by // divisor
        self.pins = len(rows) + 1

    def __eq__(self, other):
        return isinstance(other, Chart) and self.rows == other.rows and self.by == other.by

    def __str__(self):
        rows = " / ".join([" ".join([str(number) for number in row]) for row in self.rows])
        return f"{rows} : {self.by}"

    def product(self, step, its):
        """The product of two steps."""
        check_step(step, self.pins)
        check_step(its, self.pins)
        return lowest(product_in(self.rows, step, its), self.by)

    def square(self, step):
        """The product of a step with itself."""
        check_step(step, self.pins)
        return lowest(product_in(self.rows, step, step), self.by)

    def within(self, pins):
        """The chart of some pins, the first of them as pin 0."""
        check_pins(pins, self.pins)
        if len(pins) < 3:
            raise Misfit("pins")
        return Chart(self._products_from(pins), self.by)

    def volume(self, pins):
        """The determinant of the products of the steps from the first of four pins."""
        check_pins(pins, self.pins)
        if len(pins) != 4:
            raise Misfit("pins")
        return lowest(determinant(self._products_from(pins)), self.by * self.by * self.by)

    def _products_from(self, pins):
        steps = [(pins[0], pin) for pin in pins[1:]]
        return [[product_in(self.rows, step, its) for its in steps] for step in steps]


def _told(rows, pin, its):
    # The rows leave pin 0 out: all steps to it are 0.
    return 0 if pin == 0 or its == 0 else rows[pin - 1][its - 1]


def product_in(rows, step, its):
    """The product of two steps by these rows, of products of the steps from pin 0."""
    (a, b), (c, d) = step, its
    return _told(rows, b, d) + _told(rows, a, c) - _told(rows, b, c) - _told(rows, a, d)


def check_chart(value, part):
    """Raise BadChart with this part unless the value is a Chart."""
    if not isinstance(value, Chart):
        raise BadChart(part)


def _first_square(left):
    """The first column that has a square other than 0, or None."""
    for at in range(len(left)):
        if left[at][at] != 0:
            return at
    return None


def _row_below(left, at):
    """A row that comes below 0 where at is the first square, None if none is plain to see."""
    size = len(left)
    if at is not None:
        return [int(k == at) for k in range(size)] if left[at][at] < 0 else None
    for a, b in combinations(range(size), 2):
        if left[a][b] != 0:
            sign = -1 if left[a][b] > 0 else 1
            return [int(k == a) + sign * int(k == b) for k in range(size)]
    return None


def _led_back(row, taken):
    """The row that comes as far below 0 before what was taken off, but for a factor above 0."""
    for at, top in reversed(taken):
        across = sum([mine * its for mine, its in zip(row, top)])
        row = [top[at] * number for number in row]
        row[at] -= across
    return primitive(row)


def _taken_off(left, at):
    """What is left, times left[at][at], if what the pin there makes is taken off."""
    top = left[at]
    return [[top[at] * left[a][b] - top[a] * top[b] for b in range(len(top))] for a in range(len(top))]


def never_below(chart):
    """The Squares that make the chart, or a Below."""
    check_chart(chart, "chart")
    left, ratio = [list(row) for row in chart.rows], (1, chart.by)
    terms, taken = [], []
    while True:
        at = _first_square(left)
        below = _row_below(left, at)
        if below is not None:
            return Below(_led_back(below, taken))
        if at is None:
            return Squares(terms)
        top, square = left[at], left[at][at]
        divisor = common_divisor(top)
        ratio = over(ratio, (square, 1))
        terms.append((times(ratio, (divisor * divisor, 1)), primitive(top)))
        taken.append((at, top))
        left = _taken_off(left, at)
        divisor = max(1, common_divisor([number for row in left for number in row]))
        left = [[number // divisor for number in row] for row in left]
        ratio = times(ratio, (divisor, 1))


def _is_sum_of(chart, many):
    told = never_below(chart)
    return isinstance(told, Squares) and len(told.terms) == many


def solid(chart):
    """Whether the chart is never below 0, and its rank is three."""
    return _is_sum_of(chart, 3)


def flat(chart):
    """Whether the chart is never below 0, and its rank is two."""
    return _is_sum_of(chart, 2)


def left_of(chart, rows):
    """What is left of the chart without the products of rows: integers, all over the chart's by."""
    check_chart(chart, "chart")
    check_table(rows)
    if len(rows[0]) != chart.pins - 1:
        raise Misfit("pins")
    taken, size = products_of(rows), len(chart.rows)
    return [[chart.rows[a][b] - chart.by * taken[a][b] for b in range(size)] for a in range(size)]


def _is_one_row(left, at):
    """Whether what is left is a multiple of the row there, by itself."""
    top, size = left[at], len(left)
    for a in range(size):
        for b in range(a + 1):
            if top[at] * left[a][b] != top[a] * top[b]:
                return False
    return True


def _pins_amiss(left):
    """The pins that show that what is left is no Rest, or None."""
    size = len(left)
    if not any([number != 0 for row in left for number in row]):
        return ()
    for a in range(size):
        if left[a][a] < 0:
            return (a + 1, a + 1)
    at = _first_square(left)
    if at is not None and _is_one_row(left, at):
        return None
    for a, b in combinations(range(size), 2):
        for d, e in combinations(range(size), 2):
            if left[a][d] * left[b][e] != left[a][e] * left[b][d]:
                return (a + 1, b + 1, d + 1, e + 1)
    return None


def rest(chart, rows):
    """The Rest of what is left of the chart without the products of rows, or the NoRest."""
    left = left_of(chart, rows)
    pins = _pins_amiss(left)
    if pins is not None:
        return NoRest(pins)
    at = _first_square(left)
    row = primitive(left[at])
    return Rest(lowest(left[at][at], row[at] * row[at] * chart.by), row)
