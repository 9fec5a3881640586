"""What a tray tells: any chart, those of one number c, one chart, or that it is none's."""

from farseen.amiss import is_whole, lots_amiss, spread
from farseen.edges import c_by_sums, edge_chart, is_thin, product_at, sums_to, ways_to
from farseen.errors import Misfit
from farseen.guards import check_c, check_picture_number
from farseen.papers import Denial, Paper
from farseen.planes import first_minor
from farseen.tables import rank
from farseen.trays import check_tray


class TrayFree(Paper):
    """All rows are kin."""

    def __init__(self):
        super().__init__("trayfree")


class TrayStretch(Paper):
    """Two rows, not kin; all others are kin to one of them."""

    def __init__(self, one, other):
        super().__init__("traystretch", one, other)
        self.one, self.other = self.parts


class TrayOne(Paper):
    """The one chart of the tray."""

    def __init__(self, chart):
        super().__init__("trayone", chart)
        self.chart = self.parts[0]


class TrayThin(Denial):
    """A thin row."""

    def __init__(self, number):
        super().__init__("traythin", number)
        self.number = self.parts[0]


class TrayUnlike(Denial):
    """Two rows that are multiples of one another, not kin, neither thin."""

    def __init__(self, one, other):
        super().__init__("trayunlike", one, other)
        self.one, self.other = self.parts


class TrayApart(Denial):
    """Three rows that do not depend, and pins that show it."""

    def __init__(self, one, other, third, pins):
        super().__init__("trayapart", one, other, third, pins)
        self.one, self.other, self.third, self.pins = self.parts


class TrayNoTriangle(Denial):
    """The third row is x times the one and y times the other: no triangle with 1."""

    def __init__(self, one, other, third, x, y):
        super().__init__("traynotriangle", one, other, third, x, y)
        self.one, self.other, self.third, self.x, self.y = self.parts


class TrayMisfit(Denial):
    """The fourth row has another square than 1 in the chart of the first three."""

    def __init__(self, one, other, third, fourth, square):
        super().__init__("traymisfit", one, other, third, fourth, square)
        self.one, self.other, self.third, self.fourth, self.square = self.parts


class HeldRows:
    """The rows of a tray, held against one another: what each three tell, reckoned once."""

    def __init__(self, tray):
        self.rows = tray.rows
        self.lots = tray.kin_rows()
        self.firsts = [lot[0] for lot in self.lots]
        self.by_three = {}

    def is_amiss(self, lot):
        """Whether these rows, no two of them kin, are none's, if no shorter lot of them is."""
        if len(lot) == 1:
            return is_thin(self.rows[lot[0]])
        if len(lot) == 2:
            return first_minor(self.rows[lot[0]], self.rows[lot[1]]) is None
        if len(lot) == 3:
            return self.c_by(lot) is None
        # The fourth row is one of the chart of the first three exactly if it tells the same c.
        return self.c_by(lot[:3]) != self.c_by(lot[:2] + lot[3:])

    def c_by(self, lot):
        """The c of the first two of three rows, None if no pins have all three."""
        if lot not in self.by_three:
            one, other, third = [self.rows[number] for number in lot]
            sums = sums_to(one, other, third)
            self.by_three[lot] = None if sums is None else c_by_sums(sums)
        return self.by_three[lot]


def _reason_of_three(rows, lot):
    one, other, third = lot
    ways = ways_to(rows[one], rows[other], rows[third])
    if ways is None:
        columns = rank([rows[number] for number in lot]).columns
        return TrayApart(one, other, third, [column + 1 for column in columns])
    return TrayNoTriangle(one, other, third, ways[0], ways[1])


def _reason_of_four(held, lot):
    one, other, third, fourth = lot
    sums = sums_to(held.rows[one], held.rows[other], held.rows[fourth])
    return TrayMisfit(one, other, third, fourth, product_at(held.c_by(lot[:3]), sums, sums))


def _first_reason(held):
    lot = lots_amiss(held, 1)[0]
    if len(lot) == 1:
        return TrayThin(lot[0])
    if len(lot) == 2:
        return TrayUnlike(lot[0], lot[1])
    if len(lot) == 3:
        return _reason_of_three(held.rows, lot)
    return _reason_of_four(held, lot)


def _settled(held):
    """The paper of what the rows tell, or the first reason why they are none's."""
    if not is_whole(held):
        return _first_reason(held)
    firsts = held.firsts
    if len(firsts) == 1:
        return TrayFree()
    if len(firsts) == 2:
        return TrayStretch(firsts[0], firsts[1])
    c = held.c_by(tuple(firsts[:3]))
    return TrayOne(edge_chart(held.rows[firsts[0]], held.rows[firsts[1]], c))


def settle_tray(tray):
    """The paper of what a tray tells, or the first reason why it is none's."""
    check_tray(tray, "tray")
    return _settled(HeldRows(tray))


def tray_quarrels(tray):
    """The lots of rows that are none's, while no shorter lot of them is, ordered."""
    check_tray(tray, "tray")
    held = HeldRows(tray)
    if is_whole(held):
        return ()
    return spread(lots_amiss(held, None), held.lots)


def tray_chart_at(tray, c):
    """The chart at c of the two rows of a stretch."""
    check_tray(tray, "tray")
    check_c(c)
    told = settle_tray(tray)
    if not isinstance(told, TrayStretch):
        raise Misfit("kind")
    return edge_chart(tray.rows[told.one], tray.rows[told.other], c)


def c_of(tray, one, other):
    """The c between two rows of a tray that settles one chart."""
    check_tray(tray, "tray")
    check_picture_number(one, len(tray.rows))
    check_picture_number(other, len(tray.rows))
    held = HeldRows(tray)
    if len(held.firsts) < 3 or not is_whole(held):
        raise Misfit("kind")
    first, second = [tray.rows[number] for number in held.firsts[:2]]
    sums, its = [sums_to(first, second, tray.rows[number]) for number in (one, other)]
    return product_at(held.c_by(tuple(held.firsts[:3])), sums, its)
