"""Kin pictures: the same picture turned, perhaps mirrored, and shifted."""

from farseen.albums import check_album
from farseen.checks import primitive
from farseen.lots import grouped
from farseen.papers import Denial, Paper
from farseen.pictures import check_two


class Kin(Paper):
    """The hand and the turn (by, x, y) that make the one picture the other."""

    def __init__(self, hand, turn):
        super().__init__("kin", hand, turn)
        self.hand, self.turn = self.parts


class NotKin(Denial):
    """Two pins with another product in the one picture than in the other."""

    def __init__(self, pin, its):
        super().__init__("notkin", pin, its)
        self.pin, self.its = self.parts


def steps_of(picture, hand):
    """The steps from pin 0, mirrored for hand -1."""
    return [(hand * a, b) for a, b in zip(picture.rows[0], picture.rows[1])]


def is_turn(turn, steps, its):
    """Whether turned by x and y, divided by by, these steps are the others."""
    by, x, y = turn
    return all([by * c == x * a - y * b and by * d == y * a + x * b for (a, b), (c, d) in zip(steps, its)])


def _turn_of(steps, its):
    """The turn by the first step that goes somewhere."""
    for (a, b), (c, d) in zip(steps, its):
        if a != 0 or b != 0:
            return primitive((a * a + b * b, a * c + b * d, a * d - b * c))
    return (1, 1, 0)


def _pins_apart(one, other):
    """The first two pins with unlike products in both, or None."""
    mine, its = one.products(), other.products()
    for a in range(one.pins - 1):
        for b in range(one.pins - 1):
            if mine[a][b] != its[a][b]:
                return (a + 1, b + 1)
    return None


def kin(one, other):
    """The Kin of two pictures, or the NotKin."""
    check_two(one, other)
    apart = _pins_apart(one, other)
    if apart is not None:
        return NotKin(*apart)
    its = steps_of(other, 1)
    turn = _turn_of(steps_of(one, 1), its)
    if is_turn(turn, steps_of(one, 1), its):
        return Kin(1, turn)
    return Kin(-1, _turn_of(steps_of(one, -1), its))


def groups(album):
    """The lots of pictures that are kin, by their first ones."""
    check_album(album, "album")
    return grouped([picture.products() for picture in album.pictures])
