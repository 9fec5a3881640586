"""Whether papers on scales and sizes are right."""

from farseen.albums import Album, check_album
from farseen.axes import Apart, Thin
from farseen.charts import Chart, NoRest, Rest, rest
from farseen.check_axes import are_of_one_plane, is_reason
from farseen.check_charts import shows_rest
from farseen.check_sayings import charts_told, is_solid_of, is_told_by, is_told_freely, opens
from farseen.checks import are_integers, is_within
from farseen.enlarged import HeldSizes, c_with_sizes, enlarged, sized_groups
from farseen.evened import Evened, NoEvening, evened_by, root_of
from farseen.exact import are_unlike, is_made, is_same
from farseen.judged import Never, Open, Sure, can_be_at, can_be_in, row_of
from farseen.papers import Denial
from farseen.pictures import check_two
from farseen.planes import joined_rank
from farseen.reasons import Misfits, NoCorner, NoTriangle
from farseen.scales import Scale, Uneven, scale
from farseen.sizes import SizedFree, SizedOne, SizedStretch, SizeRing, check_sized_saying, sized_reason_of_three, sizes
from farseen.threes import chart_of_three


def shows_scale(one, other, value):
    """Whether it is the Scale, or a denial of any integers and pins that show it."""
    check_two(one, other)
    if not is_made(value):
        return False
    if isinstance(value, Scale):
        told = scale(one, other)
        return isinstance(told, Scale) and is_same(value.parts, told.parts)
    if not isinstance(value, Thin) and not is_same(value.parts[:2], (0, 1)):
        return False
    return _is_reason_of_two((one, other), value)


def _is_reason_of_two(pictures, value):
    """Whether a made paper is a denial of one or two of these pictures, told by their numbers."""
    if isinstance(value, (Thin, Apart)):
        return is_reason(pictures, value)
    if not isinstance(value, Uneven) or not are_unlike(value.parts[:2], len(pictures)):
        return False
    one, other = [pictures[number] for number in value.parts[:2]]
    return _are_uneven(one, other, value.parts[2])


def _are_uneven(one, other, pins):
    if not are_integers(pins) or len(pins) != 4 or not all([is_within(pin, 1, one.pins - 1) for pin in pins]):
        return False
    if not are_of_one_plane(one, other):
        return False
    a, b, d, e = [pin - 1 for pin in pins]
    mine, its = one.products(), other.products()
    return mine[a][b] * its[d][e] != mine[d][e] * its[a][b]


def _squares_of(album):
    """The scales of picture 0 and each picture, None if it has none with some."""
    told = [scale(album.pictures[0], picture) for picture in album.pictures]
    if not all([isinstance(paper, Scale) for paper in told]):
        return None
    return tuple([paper.square for paper in told])


def shows_sizes(album, value):
    """Whether it is the paper of the album's kind with sizes, or any reason with sizes why it is none's."""
    check_album(album, "album")
    if not is_made(value):
        return False
    if isinstance(value, SizedFree):
        return len(sized_groups(album)) == 1 and _are_squares(album, value.parts[0])
    if isinstance(value, SizedStretch):
        return _is_stretch(album, value.parts)
    if isinstance(value, SizedOne):
        return _is_one(album, value.parts)
    if isinstance(value, (SizeRing, NoCorner, NoTriangle)):
        return _is_reason_of_three(album, value)
    if isinstance(value, Misfits):
        return _are_misfits(album, value.parts)
    return _is_reason_of_two(album.pictures, value)


def _are_squares(album, squares):
    right = _squares_of(album)
    return right is not None and is_same(squares, right)


def _axis_of(one, other):
    """The directions of the axis of two pictures, None if they have none."""
    if one.is_thin() or other.is_thin():
        return None
    _, both = joined_rank(one.rows, other.rows)
    return None if both is None else (both[:2], both[2:])


def _is_stretch(album, parts):
    squares, numbers = parts[0], parts[1:]
    if not are_unlike(numbers, len(album.pictures)) or len(sized_groups(album)) != 2:
        return False
    one, other = [album.pictures[number] for number in numbers]
    return _axis_of(one, other) is not None and _are_squares(album, squares)


def _is_of(album, chart):
    """Whether a body that has the album with sizes has this chart at the size of picture 0."""
    squares = _squares_of(album)
    if squares is None or not is_solid_of(chart, album.pins):
        return False
    return all([isinstance(rest(enlarged(chart, square), picture.rows), Rest)
                for square, picture in zip(squares, album.pictures)])


def _is_one(album, parts):
    """With three planes no other chart can be."""
    squares, chart = parts
    return len(sized_groups(album)) > 2 and _is_of(album, chart) and _are_squares(album, squares)


def _axes_of(pictures):
    """The directions of the three axes of three pictures, None if two have no axis."""
    one, other, third = pictures
    axes = [_axis_of(one, other), _axis_of(one, third), _axis_of(other, third)]
    return None if None in axes else axes


def _is_reason_of_three(album, value):
    lot = value.parts[:3]
    if not are_unlike(lot, len(album.pictures)):
        return False
    pictures = [album.pictures[number] for number in lot]
    axes = _axes_of(pictures)
    if axes is None or c_with_sizes(pictures, axes) is not None:
        return False
    right = sized_reason_of_three(pictures, lot, axes)
    return value.word == right.word and is_same(value.parts, right.parts)


def _are_misfits(album, parts):
    lot, chart, paper = parts[:4], parts[4], parts[5]
    if not are_unlike(lot, len(album.pictures)) or not isinstance(chart, Chart) or not isinstance(paper, NoRest):
        return False
    pictures = [album.pictures[number] for number in lot]
    axes = _axes_of(pictures[:3])
    if axes is None or c_with_sizes(pictures[:3], axes) is None or chart_of_three(pictures[:3], axes) != chart:
        return False
    told = scale(pictures[0], pictures[3])
    return isinstance(told, Scale) and shows_rest(enlarged(chart, told.square), pictures[3].rows, paper)


def shows_judged_sized(album, saying, value):
    """Whether it is a right Sure, Never or Open of the saying, of all charts with sizes."""
    check_sized_saying(album, saying)
    if not is_made(value):
        return False
    if isinstance(value, Open):
        charts = charts_told(value.parts)
        return len(charts) > 0 and all([_is_of(album, chart) for chart in charts]) and opens(saying, value.parts)
    return isinstance(value, (Sure, Never)) and _is_told(album, saying, value)


def _is_told(album, saying, value):
    told = sizes(album)
    if isinstance(told, Denial):
        return False
    if isinstance(told, SizedFree):
        return is_told_freely(saying, album.pictures[0], value)
    if isinstance(told, SizedOne):
        return is_told_by(saying, can_be_in(saying, told.chart), value)
    square, lines = HeldSizes(album).lines_by((told.one, told.other))
    return is_told_by(saying, can_be_at(row_of(saying, square, lines)), value)


def shows_evened(album, value):
    """Whether it is the Evened, or a NoEvening of any picture whose square is not that of a ratio."""
    told = sizes(album)
    if isinstance(told, Denial):
        return False
    right = evened_by(album, told)
    if not is_made(value):
        return False
    if isinstance(value, Evened):
        return isinstance(right, Evened) and _is_evened(value.parts, right)
    return isinstance(value, NoEvening) and _is_uneven_at(told.squares, value.parts)


def _is_evened(parts, right):
    numbers, album = parts
    return is_same(numbers, right.numbers) and isinstance(album, Album) and album == right.album


def _is_uneven_at(squares, parts):
    number, square = parts
    if not is_within(number, 0, len(squares) - 1) or not is_same(square, squares[number]):
        return False
    return root_of(squares[number]) is None
