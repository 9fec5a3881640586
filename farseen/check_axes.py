"""Whether papers on two pictures are right."""

from farseen.across import row_along, square_of
from farseen.axes import Apart, Axis, SamePlane, Thin, Unalike, Unequal, axis
from farseen.charts import NoRest, check_chart
from farseen.check_charts import shows_rest
from farseen.checks import are_integers, is_ratio, is_within
from farseen.errors import Misfit
from farseen.exact import is_made, is_pair, is_same
from farseen.guards import check_pins, check_step
from farseen.kin import Kin, kin
from farseen.leasts import Least, Sole, least_square, least_volume
from farseen.pictures import check_picture, check_two
from farseen.planes import first_minor, joined_rank
from farseen.stretches import Turn, Unfit, chart_at
from farseen.tables import determinant


def shows_axis(one, other, value):
    """Whether it is an Axis, a SamePlane, or a denial, of any integers and pins that are so."""
    check_two(one, other)
    if not is_made(value):
        return False
    if isinstance(value, Axis):
        return _is_axis(one, other, value.parts)
    if isinstance(value, SamePlane):
        return are_of_one_plane(one, other) and _is_hand(one, other, value.parts[0])
    if not isinstance(value, Thin) and not is_same(value.parts[:2], (0, 1)):
        return False
    return is_reason((one, other), value)


def is_reason(pictures, value):
    """Whether a made paper is a denial of one or two of these pictures, told by their numbers."""
    if isinstance(value, Thin):
        number, row = value.parts
        return is_within(number, 0, len(pictures) - 1) and _is_thin_by(pictures[number], row)
    if not isinstance(value, (Apart, Unalike, Unequal)):
        return False
    numbers = value.parts[:2]
    if not all([is_within(number, 0, len(pictures) - 1) for number in numbers]) or numbers[0] == numbers[1]:
        return False
    one, other = pictures[numbers[0]], pictures[numbers[1]]
    if isinstance(value, Apart):
        return _are_apart(one, other, value.parts[2])
    if isinstance(value, Unalike):
        return _are_unalike(one, other, value.parts[2:])
    return _are_unequal(one, other, value.parts[2:])


def _is_thin_by(picture, row):
    """Whether it is two integers, not both 0, so many times which the rows add up to 0."""
    return is_pair(row) and any(row) and not any(row_along(picture.rows, row))


def _joins(one, other, mine, its):
    """Whether both are pairs of integers, so many times which the rows add up alike."""
    if not is_pair(mine) or not is_pair(its):
        return False
    return row_along(one.rows, mine) == row_along(other.rows, its)


def _many_planes(one, other):
    """The rank of all four rows, or None if a picture is thin."""
    if first_minor(one.rows[0], one.rows[1]) is None or first_minor(other.rows[0], other.rows[1]) is None:
        return None
    return joined_rank(one.rows, other.rows)[0]


def _is_axis(one, other, parts):
    mine, its = parts
    if not _joins(one, other, mine, its) or not any(mine) or square_of(mine) != square_of(its):
        return False
    return _many_planes(one, other) == 3


def are_of_one_plane(one, other):
    """Whether both pictures, not thin, have one plane."""
    return _many_planes(one, other) == 2


def _is_hand(one, other, hand):
    told = kin(one, other)
    return isinstance(told, Kin) and is_same(hand, told.hand)


def _are_apart(one, other, pins):
    if not are_integers(pins) or len(pins) != 4 or not all([1 <= pin < one.pins for pin in pins]):
        return False
    # A pin that stands twice makes the determinant 0.
    return determinant([[row[pin - 1] for pin in pins] for row in one.rows + other.rows]) != 0


def _are_unalike(one, other, pins):
    if not all([is_within(pin, 1, one.pins - 1) for pin in pins]) or not are_of_one_plane(one, other):
        return False
    pin, its = pins
    return one.products()[pin - 1][its - 1] != other.products()[pin - 1][its - 1]


def _are_unequal(one, other, directions):
    mine, its = directions
    return _joins(one, other, mine, its) and square_of(mine) != square_of(its)


def shows_turn(one, other, chart, value):
    """Whether it is the Turn of the chart, or an Unfit of either picture and any pins that show it."""
    check_picture(one, "one")
    check_picture(other, "other")
    check_chart(chart, "chart")
    check_two(one, other)
    if chart.pins != one.pins:
        raise Misfit("pins")
    if not is_made(value) or not isinstance(axis(one, other), Axis):
        return False
    if isinstance(value, Turn):
        c = value.parts[0]
        return is_ratio(c) and abs(c[0]) < c[1] and chart_at(one, other, c) == chart
    return isinstance(value, Unfit) and _is_unfit((one, other), chart, value.parts)


def _is_unfit(pictures, chart, parts):
    number, pins = parts
    if not is_within(number, 0, 1):
        return False
    return shows_rest(chart, pictures[number].rows, NoRest(pins))


def shows_least_square(one, other, step, value):
    """Whether it is the Least or the Sole of the square of this step."""
    check_picture(one, "one")
    check_picture(other, "other")
    check_step(step, one.pins)
    if not isinstance(axis(one, other), Axis):
        return False
    return _is_least(value, least_square(one, other, step))


def shows_least_volume(one, other, pins, value):
    """Whether it is the Least or the Sole of the determinant of these pins."""
    check_picture(one, "one")
    check_picture(other, "other")
    check_pins(pins, one.pins)
    check_two(one, other)
    if len(pins) != 4:
        raise Misfit("pins")
    if not isinstance(axis(one, other), Axis):
        return False
    return _is_least(value, least_volume(one, other, pins))


def _is_least(value, told):
    if not is_made(value) or value.word != told.word:
        return False
    return isinstance(value, (Least, Sole)) and is_same(value.parts, told.parts)
