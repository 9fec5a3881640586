"""Whether papers on tables and charts are right."""

from farseen.charts import Below, NoRest, Rest, Squares, check_chart, left_of
from farseen.checks import are_integers, is_primitive, is_ratio
from farseen.exact import is_made, is_same
from farseen.ratios import plus, times
from farseen.tables import Rank, rank


def shows_rank(rows, value):
    """Whether it is the Rank of the table."""
    told = rank(rows)
    return is_made(value) and isinstance(value, Rank) and is_same(value.parts, told.parts)


def shows_never_below(chart, value):
    """Whether it is a Squares that makes the chart, or a Below."""
    check_chart(chart, "chart")
    if not is_made(value):
        return False
    if isinstance(value, Squares):
        return are_squares(chart, value.parts[0])
    return isinstance(value, Below) and _shows_below(chart, value.parts[0])


def _is_term(term, size):
    if not isinstance(term, tuple) or len(term) != 2:
        return False
    ratio, row = term
    if not is_ratio(ratio) or ratio[0] <= 0:
        return False
    return _is_row(row, size) and any([number != 0 for number in row])


def _is_row(row, size):
    return are_integers(row) and len(row) == size


def are_squares(chart, terms):
    """Whether they are pairs of a ratio above 0 and a row, not all 0, that make the chart."""
    size = len(chart.rows)
    if not isinstance(terms, tuple) or not all([_is_term(term, size) for term in terms]):
        return False
    return all([_sum_at(terms, a, b) == chart.product((0, a + 1), (0, b + 1))
                for a in range(size) for b in range(a + 1)])


def _sum_at(terms, a, b):
    total = (0, 1)
    for ratio, row in terms:
        total = plus(total, times(ratio, (row[a] * row[b], 1)))
    return total


def _shows_below(chart, row):
    size = len(chart.rows)
    if not _is_row(row, size):
        return False
    return sum([row[a] * row[b] * chart.rows[a][b] for a in range(size) for b in range(size)]) < 0


def shows_rest(chart, rows, value):
    """Whether it is the Rest, or a NoRest of any pins that show it."""
    left = left_of(chart, rows)
    if not is_made(value):
        return False
    if isinstance(value, Rest):
        return _is_rest(left, chart.by, value.parts)
    return isinstance(value, NoRest) and _are_amiss(left, value.parts[0])


def _is_rest(left, by, parts):
    ratio, row = parts
    size = len(left)
    if not is_ratio(ratio) or ratio[0] <= 0 or not is_primitive(row) or len(row) != size:
        return False
    return all([row[a] * row[b] * ratio[0] * by == left[a][b] * ratio[1] for a in range(size) for b in range(size)])


def _are_amiss(left, pins):
    if not are_integers(pins) or not all([1 <= pin <= len(left) for pin in pins]):
        return False
    if len(pins) == 0:
        return not any([number != 0 for row in left for number in row])
    if len(pins) == 2:
        a, its = pins
        return a == its and left[a - 1][a - 1] < 0
    if len(pins) != 4:
        return False
    a, b, d, e = pins
    return a < b and d < e and left[a - 1][d - 1] * left[b - 1][e - 1] != left[a - 1][e - 1] * left[b - 1][d - 1]
