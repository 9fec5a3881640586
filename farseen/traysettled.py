"""What a tray tells: any chart, those of one number c, one chart, or that it is none's."""

from itertools import combinations
from farseen.checks import is_ratio
from farseen.edges import are_multiples, c_by, edge_chart, is_thin, is_triangle, product_at, ways_to
from farseen.errors import BadRatio, Misfit
from farseen.guards import check_picture_number
from farseen.papers import Denial, Paper
from farseen.tables import rank
from farseen.trays import are_kin, check_tray

LONGEST_QUARREL = 4


class TrayFree(Paper):
    """All rows are kin."""

    def __init__(self):
        super().__init__("trayfree")


class TrayStretch(Paper):
    """Two rows, not kin; all others are kin to one of them."""

    def __init__(self, one, other):
        super().__init__("traystretch", one, other)
        self.one, self.other = self.parts


class TrayOne(Paper):
    """The one chart of the tray."""

    def __init__(self, chart):
        super().__init__("trayone", chart)
        self.chart = self.parts[0]


class TrayThin(Denial):
    """A thin row."""

    def __init__(self, number):
        super().__init__("traythin", number)
        self.number = self.parts[0]


class TrayUnlike(Denial):
    """Two rows that are multiples of one another, not kin, neither thin."""

    def __init__(self, one, other):
        super().__init__("trayunlike", one, other)
        self.one, self.other = self.parts


class TrayApart(Denial):
    """Three rows that do not depend, and pins that show it."""

    def __init__(self, one, other, third, pins):
        super().__init__("trayapart", one, other, third, pins)
        self.one, self.other, self.third, self.pins = self.parts


class TrayNoTriangle(Denial):
    """The third row is x times the one and y times the other: no triangle with 1."""

    def __init__(self, one, other, third, x, y):
        super().__init__("traynotriangle", one, other, third, x, y)
        self.one, self.other, self.third, self.x, self.y = self.parts


class TrayMisfit(Denial):
    """The fourth row has another square than 1 in the chart of the first three."""

    def __init__(self, one, other, third, fourth, square):
        super().__init__("traymisfit", one, other, third, fourth, square)
        self.one, self.other, self.third, self.fourth, self.square = self.parts


def _reason_of_two(rows, lot):
    one, other = lot
    if are_multiples(rows[one], rows[other]) and not are_kin(rows[one], rows[other]):
        return TrayUnlike(one, other)
    return None


def _reason_of_three(rows, lot):
    one, other, third = lot
    ways = ways_to(rows[one], rows[other], rows[third])
    if ways is None:
        columns = rank([rows[number] for number in lot]).columns
        return TrayApart(one, other, third, [column + 1 for column in columns])
    if not is_triangle(ways):
        return TrayNoTriangle(one, other, third, ways[0], ways[1])
    return None


def _reason_of_four(rows, lot):
    one, other, third, fourth = lot
    c = c_by(ways_to(rows[one], rows[other], rows[third]))
    ways = ways_to(rows[one], rows[other], rows[fourth])
    square = product_at(c, ways, ways)
    if square != (1, 1):
        return TrayMisfit(one, other, third, fourth, square)
    return None


def _have_kin(rows, lot):
    return any([are_kin(rows[lot[a]], rows[lot[b]]) for b in range(len(lot)) for a in range(b)])


def _reason(rows, lot):
    """The denial of a lot of rows of which no shorter lot is none's, or None."""
    if len(lot) == 1:
        return TrayThin(lot[0]) if is_thin(rows[lot[0]]) else None
    if len(lot) == 2:
        return _reason_of_two(rows, lot)
    if _have_kin(rows, lot):
        # Without one of both kin rows a shorter lot tells the same.
        return None
    if len(lot) == 3:
        return _reason_of_three(rows, lot)
    return _reason_of_four(rows, lot)


def _has_one_of(lots, lot):
    return any([all([number in lot for number in its]) for its in lots])


def _quarrels(rows):
    """The pairs of each lot that is none's, while no shorter lot of it is, and its denial."""
    lots, found = [], []
    for size in range(1, LONGEST_QUARREL + 1):
        for lot in combinations(range(len(rows)), size):
            if not _has_one_of(lots, lot):
                denial = _reason(rows, lot)
                if denial is not None:
                    lots.append(lot)
                    found.append((lot, denial))
    return found


def _unlike_rows(tray):
    """The first rows of each lot of kin rows."""
    return [lot[0] for lot in tray.kin_rows()]


def settle_tray(tray):
    """The paper of what a tray tells, or the first reason why it is none's."""
    check_tray(tray, "tray")
    found = _quarrels(tray.rows)
    if found:
        return found[0][1]
    unlike = _unlike_rows(tray)
    if len(unlike) == 1:
        return TrayFree()
    if len(unlike) == 2:
        return TrayStretch(unlike[0], unlike[1])
    one, other = tray.rows[unlike[0]], tray.rows[unlike[1]]
    return TrayOne(edge_chart(one, other, _settled_c(tray, unlike)))


def _settled_c(tray, unlike):
    """The c of the first two rows that are not kin, by the third one."""
    one, other, third = [tray.rows[number] for number in unlike[:3]]
    return c_by(ways_to(one, other, third))


def tray_quarrels(tray):
    """The lots of rows that are none's, while no shorter lot of them is, ordered."""
    check_tray(tray, "tray")
    return tuple([lot for lot, _ in _quarrels(tray.rows)])


def tray_chart_at(tray, c):
    """The chart at c of the two rows of a stretch."""
    check_tray(tray, "tray")
    if not is_ratio(c) or abs(c[0]) >= c[1]:
        raise BadRatio("c")
    told = settle_tray(tray)
    if not isinstance(told, TrayStretch):
        raise Misfit("kind")
    return edge_chart(tray.rows[told.one], tray.rows[told.other], c)


def c_of(tray, one, other):
    """The c between two rows of a tray that settles one chart."""
    check_tray(tray, "tray")
    check_picture_number(one, len(tray.rows))
    check_picture_number(other, len(tray.rows))
    if not isinstance(settle_tray(tray), TrayOne):
        raise Misfit("kind")
    unlike = _unlike_rows(tray)
    first, second = tray.rows[unlike[0]], tray.rows[unlike[1]]
    ways, its = [ways_to(first, second, tray.rows[number]) for number in (one, other)]
    return product_at(_settled_c(tray, unlike), ways, its)
