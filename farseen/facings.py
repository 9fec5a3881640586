"""Which pins of one album are which of another: the orders by which both can be of one body."""

from itertools import permutations
from farseen.albums import check_album
from farseen.checks import are_integers, first_twice, is_list
from farseen.errors import BadNumber, TooMany, Twice
from farseen.guards import check_pin
from farseen.papers import Denial, Paper
from farseen.settled import is_nones, settle, settled_paper

# So many pins may be without a told one: of more there are too many orders.
MOST_LOOSE = 5


class Faces(Paper):
    """The pins of the other album that face those of the first one, in their order."""

    def __init__(self, order):
        super().__init__("faces", order)
        self.order = self.parts[0]


class NoFacing(Denial):
    """For each order the denial of both albums together."""

    def __init__(self, reasons):
        super().__init__("nofacing", reasons)
        self.reasons = self.parts[0]


def _check_told(album, other, told):
    """Raise an error unless told are pairs of unlike pins of the one album, and unlike pins of the other."""
    if not is_list(told) or not all([are_integers(pair) and len(pair) == 2 for pair in told]):
        raise BadNumber("told")
    for pin, its in told:
        check_pin(pin, album.pins)
        check_pin(its, other.pins)
    for at in range(2):
        again = first_twice([pair[at] for pair in told])
        if again is not None:
            raise Twice(again)


def check_facing(album, other, told):
    """Raise an error for arguments with which no orders can be tried, but for albums that are none's."""
    check_album(album, "album")
    check_album(other, "other")
    _check_told(album, other, told)
    # This raises Misfit and TooMany.
    album.joined(other)
    if album.pins - len(told) > MOST_LOOSE:
        raise TooMany("pins", MOST_LOOSE)


def orders_with(pins, told):
    """All orders of so many pins with the told pairs, ascending."""
    facing = {pin: its for pin, its in told}
    taken = [its for _, its in told]
    loose = [pin for pin in range(pins) if pin not in facing]
    left = [pin for pin in range(pins) if pin not in taken]
    orders = []
    for row in permutations(left):
        order = [facing.get(pin, 0) for pin in range(pins)]
        for pin, its in zip(loose, row):
            order[pin] = its
        orders.append(tuple(order))
    return orders


def faced_by(album, other, order):
    """Both albums together, the other one in this order."""
    return album.joined(other.in_order(order))


def can_face(album, other, order):
    """Whether both albums can be of one body with this order."""
    return not is_nones(faced_by(album, other, order))


def _check_both(album, other, told):
    check_facing(album, other, told)
    settled_paper(album)
    settled_paper(other)


def facings(album, other, told=()):
    """All orders with the told pairs by which both albums can be of one body, ascending."""
    _check_both(album, other, told)
    return tuple([order for order in orders_with(album.pins, told) if can_face(album, other, order)])


def faced(album, other, told=()):
    """The Faces of the first such order, or the NoFacing."""
    _check_both(album, other, told)
    orders = orders_with(album.pins, told)
    for order in orders:
        if can_face(album, other, order):
            return Faces(order)
    return NoFacing([settle(faced_by(album, other, order)) for order in orders])
