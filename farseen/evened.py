"""Pictures evened: enlarged so that all have one size."""

from math import isqrt, lcm
from farseen.albums import Album
from farseen.errors import Impossible
from farseen.papers import Denial, Paper
from farseen.sizes import sizes


class Evened(Paper):
    """How many times each picture is taken, and the album of the pictures so, all of one size."""

    def __init__(self, numbers, album):
        super().__init__("evened", numbers, album)
        self.numbers, self.album = self.parts


class NoEvening(Denial):
    """The first picture whose square is not that of a ratio."""

    def __init__(self, number, square):
        super().__init__("noevening", number, square)
        self.number, self.square = self.parts


def root_of(square):
    """The ratio above 0 with this square, or None."""
    number, by = isqrt(square[0]), isqrt(square[1])
    return (number, by) if number * number == square[0] and by * by == square[1] else None


def _numbers_for(roots):
    """Integers without a common divisor that make all sizes one."""
    whole = 1
    for number, _ in roots:
        whole = lcm(whole, number)
    # The first root is 1, so that no divisor of all these is left.
    return [whole // number * by for number, by in roots]


def evened(album):
    """The Evened of an album, or the NoEvening."""
    told = sizes(album)
    if isinstance(told, Denial):
        raise Impossible(told)
    return evened_by(album, told)


def evened_by(album, told):
    """The Evened or the NoEvening of an album that is not none's with sizes, by what `sizes` tells."""
    roots = [root_of(square) for square in told.squares]
    for number, root in enumerate(roots):
        if root is None:
            return NoEvening(number, told.squares[number])
    numbers = _numbers_for(roots)
    return Evened(numbers, Album([picture.times(many) for picture, many in zip(album.pictures, numbers)]))
