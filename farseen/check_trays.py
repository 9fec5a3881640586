"""Whether papers on trays are right."""

from farseen.charts import Chart, Rest, rest
from farseen.checks import is_ratio, is_within
from farseen.edges import are_multiples, c_by_sums, is_thin, over_one, product_at, ways_to
from farseen.exact import is_lot, is_made, is_same
from farseen.steady import Steady, SteadyOpen, Unsteady, steady
from farseen.tables import determinant
from farseen.trays import are_kin, check_tray
from farseen.traysettled import TrayApart, TrayFree, TrayMisfit, TrayNoTriangle, TrayOne, TrayStretch
from farseen.traysettled import TrayThin, TrayUnlike


def shows_tray(tray, value):
    """Whether it is a right paper of what the tray tells, or a denial of any lot of rows."""
    check_tray(tray, "tray")
    if not is_made(value):
        return False
    if isinstance(value, TrayFree):
        return _is_free(tray)
    if isinstance(value, TrayStretch):
        return _is_stretch(tray.rows, value.parts)
    if isinstance(value, TrayOne):
        return _is_one(tray, value.parts[0])
    return _is_denial(tray, value)


def _is_denial(tray, value):
    if isinstance(value, TrayThin):
        return _is_row_thin(tray.rows, value.parts[0])
    if isinstance(value, TrayUnlike):
        return _are_unlike(tray.rows, value.parts)
    if isinstance(value, TrayApart):
        return _are_apart(tray, value.parts[:3], value.parts[3])
    if isinstance(value, TrayNoTriangle):
        return _are_no_triangle(tray.rows, value.parts[:3], value.parts[3:])
    return isinstance(value, TrayMisfit) and _is_misfit(tray.rows, value.parts[:4], value.parts[4])


def _is_lot_of(rows, numbers):
    return is_lot(numbers, len(numbers), 0, len(rows) - 1)


def _is_free(tray):
    return not is_thin(tray.rows[0]) and all([are_kin(row, tray.rows[0]) for row in tray.rows])


def _is_stretch(rows, lot):
    if not _is_lot_of(rows, lot):
        return False
    one, other = rows[lot[0]], rows[lot[1]]
    return not are_multiples(one, other) and all([are_kin(row, one) or are_kin(row, other) for row in rows])


def _is_one(tray, chart):
    """Each row must be one of the chart; with three that are not kin no other chart can be."""
    if not isinstance(chart, Chart) or chart.pins != tray.pins:
        return False
    return len(tray.kin_rows()) > 2 and all([_is_of(chart, row) for row in tray.rows])


def _is_of(chart, row):
    """Whether the chart, without the row, tells depths; such a chart is flat by itself."""
    left = rest(chart, [row])
    return isinstance(left, Rest) and not are_multiples(left.row, row)


def _is_row_thin(rows, number):
    return is_within(number, 0, len(rows) - 1) and is_thin(rows[number])


def _are_unlike(rows, lot):
    if not _is_lot_of(rows, lot):
        return False
    one, other = rows[lot[0]], rows[lot[1]]
    if is_thin(one) or is_thin(other):
        return False
    return are_multiples(one, other) and not are_kin(one, other)


def _are_apart(tray, lot, pins):
    if not _is_lot_of(tray.rows, lot) or not is_lot(pins, 3, 1, tray.pins - 1):
        return False
    return determinant([[tray.rows[number][pin - 1] for pin in pins] for number in lot]) != 0


def _ways_in(rows, lot):
    """How the last row of the lot is made of its first two, None if it is not, or if these are multiples."""
    one, other = rows[lot[0]], rows[lot[1]]
    return None if are_multiples(one, other) else ways_to(one, other, rows[lot[-1]])


def _are_no_triangle(rows, lot, ways):
    if not _is_lot_of(rows, lot) or not all([is_ratio(way) and way[0] != 0 for way in ways]):
        return False
    return ways == _ways_in(rows, lot) and c_by_sums(over_one(ways)) is None


def _is_misfit(rows, lot, square):
    """The fourth row may be any: also a thin one, or a multiple of another."""
    if not _is_lot_of(rows, lot) or not is_ratio(square) or square == (1, 1):
        return False
    third, fourth = _ways_in(rows, lot[:3]), _ways_in(rows, lot)
    if third is None or fourth is None:
        return False
    # With x or y 0 there is no triangle either.
    c = c_by_sums(over_one(third))
    return c is not None and square == product_at(c, over_one(fourth), over_one(fourth))


def shows_steady(tray, value):
    """Whether it is the Steady, the SteadyOpen or the Unsteady of the tray."""
    told = steady(tray)
    if not is_made(value) or value.word != told.word:
        return False
    is_own = isinstance(value, Steady) or isinstance(value, SteadyOpen) or isinstance(value, Unsteady)
    return is_own and is_same(value.parts, told.parts)
