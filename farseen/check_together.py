"""Whether papers on two albums, and on standing ones, are right."""

from farseen.albums import check_album
from farseen.charts import Chart
from farseen.check_settled import shows_settle
from farseen.checks import are_integers, is_within
from farseen.exact import is_made, is_same
from farseen.facings import Faces, NoFacing, can_face, check_facing, faced_by, orders_with
from farseen.papers import Denial
from farseen.settled import is_nones, kind, settle
from farseen.tables import determinant
from farseen.together import Maybe, Parted, Same
from farseen.uprights import Leaning, NoAxis, Standing, axis_row, first_unlike, standing_by


def shows_together(album, other, value):
    """Whether it is the Same, the Maybe, or a Parted of any denial of both albums together."""
    check_album(album, "album")
    check_album(other, "other")
    whole = album.joined(other)
    if not is_made(value):
        return False
    if isinstance(value, Parted):
        return _is_denial_of(whole, value.parts[0])
    told = settle(whole)
    if isinstance(told, Denial):
        return False
    are_one = kind(album) == "one" and kind(other) == "one"
    if isinstance(value, Same):
        return are_one and isinstance(value.parts[0], Chart) and value.parts[0] == told.chart
    return isinstance(value, Maybe) and not are_one


def _is_denial_of(album, value):
    return isinstance(value, Denial) and shows_settle(album, value)


def shows_faced(album, other, told, value):
    """Whether it is a Faces of any order that can be, or a NoFacing of any denials."""
    check_facing(album, other, told)
    if not is_made(value):
        return False
    if isinstance(value, Faces):
        order = value.parts[0]
        return _is_order(order, album.pins, told) and can_face(album, other, order)
    return isinstance(value, NoFacing) and _are_denials(album, other, told, value.parts[0])


def _is_order(order, pins, told):
    """Whether it is all pins, those that are told in their places."""
    if not are_integers(order) or sorted(list(order)) != list(range(pins)):
        return False
    return all([order[pin] == its for pin, its in told])


def _are_denials(album, other, told, reasons):
    orders = orders_with(album.pins, told)
    if not isinstance(reasons, tuple) or len(reasons) != len(orders):
        return False
    return all([_is_denial_of(faced_by(album, other, order), reason) for order, reason in zip(orders, reasons)])


def shows_standing(album, value):
    """Whether it is the Standing, the NoAxis, or a Leaning of any picture and pins that show it."""
    check_album(album, "album")
    if not is_made(value) or is_nones(album):
        return False
    if isinstance(value, Leaning):
        return _is_leaning(album, value.parts)
    told = standing_by(album)
    return isinstance(value, (Standing, NoAxis)) and value.word == told.word and is_same(value.parts, told.parts)


def _is_leaning(album, parts):
    two, number, pins = first_unlike(album), parts[2], parts[3]
    if two is None or not is_same(parts[:2], two) or not is_within(number, 0, len(album.pictures) - 1):
        return False
    if not are_integers(pins) or len(pins) != 3 or not all([1 <= pin < album.pins for pin in pins]):
        return False
    rows = (axis_row(album, two),) + album.pictures[number].rows
    # A pin that stands twice makes the determinant 0.
    return determinant([[row[pin - 1] for pin in pins] for row in rows]) != 0
