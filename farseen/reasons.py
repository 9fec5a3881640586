"""Reasons: why no body has all pictures of an album."""

from farseen.albums import check_album
from farseen.amiss import is_whole, lots_amiss
from farseen.axes import axis_between, thin_of
from farseen.charts import rest
from farseen.held import Held
from farseen.papers import Denial
from farseen.threes import are_hinged, determinant_of_axes, ends_of, hinge_ratios


class NoCorner(Denial):
    """Three pictures make a corner, and the determinant of the products of its axes is 0 or below."""

    def __init__(self, one, other, third, determinant):
        super().__init__("nocorner", one, other, third, determinant)
        self.one, self.other, self.third, self.determinant = self.parts


class NoTriangle(Denial):
    """Three pictures make a hinge, and 1, x and y are the sides of no triangle; None for no ratios."""

    def __init__(self, one, other, third, x, y):
        super().__init__("notriangle", one, other, third, x, y)
        self.one, self.other, self.third, self.x, self.y = self.parts


class Misfits(Denial):
    """What the fourth picture leaves of the chart of the first three is no Rest: the paper shows it."""

    def __init__(self, one, other, third, fourth, chart, paper):
        super().__init__("misfits", one, other, third, fourth, chart, paper)
        self.one, self.other, self.third, self.fourth, self.chart, self.paper = self.parts


def reason_of_three(pictures, lot, axes):
    """The NoCorner or NoTriangle of three pictures with these axes, told by the numbers of the lot."""
    one, other, third = lot
    if not are_hinged(axes):
        return NoCorner(one, other, third, determinant_of_axes(axes))
    ratios = hinge_ratios(pictures, ends_of(axes))
    x, y = (None, None) if ratios is None else ratios
    return NoTriangle(one, other, third, x, y)


def first_reason(held):
    """The first reason of an album that is none's."""
    lot = lots_amiss(held, 1)[0]
    pictures = [held.pictures[number] for number in lot]
    if len(lot) == 1:
        return thin_of(pictures[0], lot[0])
    if len(lot) == 2:
        return axis_between(pictures[0], pictures[1], lot)
    if len(lot) == 3:
        return reason_of_three(pictures, lot, held.axes_of(lot))
    one, other, third, fourth = lot
    chart = held.chart_of(lot[:3])
    return Misfits(one, other, third, fourth, chart, rest(chart, pictures[3].rows))


def reason(album):
    """The first reason why an album is none's, None if it is not."""
    check_album(album, "album")
    held = Held(album)
    return None if is_whole(held) else first_reason(held)
