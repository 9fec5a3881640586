"""Untold sizes: what an album tells if each picture may be enlarged by a number that nobody tells."""

from farseen.across import chart_by
from farseen.albums import check_album
from farseen.amiss import is_whole, lots_amiss
from farseen.axes import thin_of
from farseen.charts import rest
from farseen.enlarged import HeldSizes, enlarged
from farseen.errors import Impossible, Misfit
from farseen.guards import check_c
from farseen.judged import judged_along, judged_freely, judged_in
from farseen.papers import Denial, Paper
from farseen.reasons import Misfits, NoCorner, reason_of_three
from farseen.sayings import check_saying
from farseen.scales import scale_between
from farseen.threes import are_hinged, ring_of, sized_determinant


class SizedFree(Paper):
    """All pictures have one plane; the squares of their sizes."""

    def __init__(self, squares):
        super().__init__("sizedfree", squares)
        self.squares = self.parts[0]


class SizedStretch(Paper):
    """The first two pictures of unlike planes, of two planes in all; the squares of all sizes."""

    def __init__(self, squares, one, other):
        super().__init__("sizedstretch", squares, one, other)
        self.squares, self.one, self.other = self.parts


class SizedOne(Paper):
    """The one chart at the size of picture 0; the squares of all sizes."""

    def __init__(self, squares, chart):
        super().__init__("sizedone", squares, chart)
        self.squares, self.chart = self.parts


class SizeRing(Denial):
    """Three pictures make a corner, and their scales, one behind another, are not 1 in all."""

    def __init__(self, one, other, third, square):
        super().__init__("sizering", one, other, third, square)
        self.one, self.other, self.third, self.square = self.parts


def scale_of(one, other):
    """The scale of two pictures that a body has with sizes, a ratio."""
    return scale_between(one, other, (0, 1)).square


def sized_reason_of_three(pictures, lot, axes):
    """The SizeRing, NoCorner or NoTriangle of three pictures with these axes, told by the numbers of the lot."""
    if are_hinged(axes):
        return reason_of_three(pictures, lot, axes)
    one, other, third = lot
    ring = ring_of(axes)
    if ring != (1, 1):
        return SizeRing(one, other, third, ring)
    return NoCorner(one, other, third, sized_determinant(axes))


def _first_sized_reason(held):
    """The first reason with sizes of an album that is none's with sizes."""
    lot = lots_amiss(held, 1)[0]
    pictures = [held.pictures[number] for number in lot]
    if len(lot) == 1:
        return thin_of(pictures[0], lot[0])
    if len(lot) == 2:
        return scale_between(pictures[0], pictures[1], lot)
    if len(lot) == 3:
        return sized_reason_of_three(pictures, lot, held.axes_of(lot))
    one, other, third, fourth = lot
    chart = held.chart_of(lot[:3])
    paper = rest(enlarged(chart, scale_of(pictures[0], pictures[3])), pictures[3].rows)
    return Misfits(one, other, third, fourth, chart, paper)


def _sized(held):
    """The paper of an album's kind with sizes, or the first reason with sizes."""
    if not is_whole(held):
        return _first_sized_reason(held)
    squares = [scale_of(held.pictures[0], picture) for picture in held.pictures]
    firsts = held.firsts
    if len(firsts) == 1:
        return SizedFree(squares)
    if len(firsts) == 2:
        return SizedStretch(squares, firsts[0], firsts[1])
    return SizedOne(squares, held.chart_of(tuple(firsts[:3])))


def sizes(album):
    """The paper of an album's kind with sizes, or the first reason with sizes."""
    check_album(album, "album")
    return _sized(HeldSizes(album))


def sized_chart_at(album, c):
    """The Chart at c of the two pictures that the SizedStretch tells."""
    check_album(album, "album")
    check_c(c)
    held = HeldSizes(album)
    if len(held.firsts) != 2 or not is_whole(held):
        raise Misfit("kind")
    square, lines = held.lines_by(tuple(held.firsts))
    return chart_by(c, square, lines)


def check_sized_saying(album, saying):
    """Raise the errors of an album and a saying of number 0."""
    check_album(album, "album")
    check_saying(saying, "saying")
    if saying.number != 0:
        raise Misfit("number")
    if saying.pins > album.pins:
        raise Misfit("pins")


def judged_sized(album, saying):
    """The Sure, the Never or the Open of a saying, of all charts with sizes."""
    check_sized_saying(album, saying)
    held = HeldSizes(album)
    told = _sized(held)
    if isinstance(told, Denial):
        raise Impossible(told)
    if isinstance(told, SizedOne):
        return judged_in(saying, told.chart)
    if isinstance(told, SizedStretch):
        square, lines = held.lines_by((told.one, told.other))
        return judged_along(saying, square, lines)
    return judged_freely(saying, album.pictures[0])
