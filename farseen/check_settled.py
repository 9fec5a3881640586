"""Whether papers on the kinds of albums are right."""

from farseen.albums import check_album
from farseen.axes import Axis, axis
from farseen.charts import Chart, NoRest, Rest, rest, solid
from farseen.check_axes import is_reason
from farseen.check_charts import shows_rest
from farseen.corners import Corner, Hinge, check_three, corner_of, first_denial
from farseen.exact import are_pairs, are_unlike, is_made, is_same
from farseen.kin import groups
from farseen.reasons import Misfits, NoCorner, NoTriangle, reason_of_three
from farseen.settled import Free, One, Stretch
from farseen.threes import c_of_three, chart_of_three, products_of_axes


def shows_corner(album, numbers, value):
    """Whether it is the Corner or the Hinge, its axes or its ends told so many times any integer but 0."""
    lot = check_three(album, numbers)
    if first_denial(album, lot) is not None:
        return False
    told = corner_of(album, lot)
    if not is_made(value) or value.word != told.word:
        return False
    if isinstance(value, Corner):
        return _is_corner(value.parts, told.axes)
    return isinstance(value, Hinge) and _is_hinge(value.parts, told)


def _is_times(directions, right):
    """Whether they are pairs of integers, all together so many times the right ones, not 0 times."""
    if not are_pairs(directions, len(right)):
        return False
    mine = [number for direction in directions for number in direction]
    its = [number for direction in right for number in direction]
    at = [k for k in range(len(its)) if its[k] != 0][0]
    if mine[at] == 0:
        return False
    # The right ones are primitive, so that what is a multiple of them is so many times an integer.
    return all([mine[k] * its[at] == its[k] * mine[at] for k in range(len(its))])


def _is_corner(parts, right):
    axes, products = parts
    if not isinstance(axes, tuple) or len(axes) != 3:
        return False
    if not all([_is_times(mine, its) for mine, its in zip(axes, right)]):
        return False
    return is_same(products, products_of_axes(axes))


def _is_hinge(parts, told):
    ends, ratios = parts
    return _is_times(ends, told.ends) and is_same(ratios, told.ratios)


def shows_settle(album, value):
    """Whether it is the paper of the album's kind, or any reason why it is none's."""
    check_album(album, "album")
    if not is_made(value):
        return False
    if isinstance(value, Free):
        return _is_free(album)
    if isinstance(value, Stretch):
        return _is_stretch(album, value.parts)
    if isinstance(value, One):
        return _is_one(album, value.parts[0])
    if isinstance(value, (NoCorner, NoTriangle)):
        return _is_reason_of_three(album, value)
    if isinstance(value, Misfits):
        return _is_misfits(album, value.parts)
    return is_reason(album.pictures, value)


def _is_free(album):
    return not album.pictures[0].is_thin() and len(groups(album)) == 1


def _is_stretch(album, numbers):
    if not are_unlike(numbers, len(album.pictures)) or len(groups(album)) != 2:
        return False
    return isinstance(axis(album.pictures[numbers[0]], album.pictures[numbers[1]]), Axis)


def _is_one(album, chart):
    """Each picture must be one of the solid chart, and a thin one is not; with three planes no other chart can be."""
    if not isinstance(chart, Chart) or chart.pins != album.pins or len(groups(album)) < 3 or not solid(chart):
        return False
    return all([isinstance(rest(chart, picture.rows), Rest) for picture in album.pictures])


def _axes_of(pictures):
    """The directions of the three axes of three pictures, None if two have no axis with equal squares."""
    one, other, third = pictures
    told = [axis(one, other), axis(one, third), axis(other, third)]
    if not all([isinstance(paper, Axis) for paper in told]):
        return None
    return [paper.parts for paper in told]


def _is_reason_of_three(album, value):
    lot = value.parts[:3]
    if not are_unlike(lot, len(album.pictures)):
        return False
    pictures = [album.pictures[number] for number in lot]
    axes = _axes_of(pictures)
    if axes is None or c_of_three(pictures, axes) is not None:
        return False
    # A NoCorner has four parts, a NoTriangle five.
    return is_same(value.parts, reason_of_three(pictures, lot, axes).parts)


def _is_misfits(album, parts):
    lot, chart, paper = parts[:4], parts[4], parts[5]
    if not are_unlike(lot, len(album.pictures)) or not isinstance(chart, Chart) or not isinstance(paper, NoRest):
        return False
    first = [album.pictures[number] for number in lot[:3]]
    axes = _axes_of(first)
    if axes is None or chart_of_three(first, axes) != chart:
        return False
    return shows_rest(chart, album.pictures[lot[3]].rows, paper)
