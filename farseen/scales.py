"""Scales: how much larger one of two pictures is than the other."""

from farseen.across import square_of
from farseen.axes import apart_of, thin_of
from farseen.checks import lowest
from farseen.papers import Denial, Paper
from farseen.pictures import check_two
from farseen.planes import first_minor, joined_rank


class Scale(Paper):
    """The square of the second size divided by that of the first."""

    def __init__(self, square):
        super().__init__("scale", square)
        self.square = self.parts[0]


class Uneven(Denial):
    """Two pictures have one plane, and products that are not so many times those of the other, as these pins show."""

    def __init__(self, one, other, pins):
        super().__init__("uneven", one, other, pins)
        self.one, self.other, self.pins = self.parts


def flat_products(picture):
    """All products of the rows of a picture, row by row."""
    return tuple([number for row in picture.products() for number in row])


def _scale_in_plane(one, other, numbers):
    mine, its = flat_products(one), flat_products(other)
    minor = first_minor(mine, its)
    if minor is None:
        at = [k for k in range(len(mine)) if mine[k] != 0][0]
        return Scale(lowest(its[at], mine[at]))
    pins = [number + 1 for at in minor[:2] for number in divmod(at, one.pins - 1)]
    return Uneven(numbers[0], numbers[1], pins)


def scale_between(one, other, numbers):
    """What `scale` tells of two pictures that are not thin, told by these numbers."""
    many, both = joined_rank(one.rows, other.rows)
    if many == 4:
        return apart_of(one, other, numbers)
    if many == 2:
        return _scale_in_plane(one, other, numbers)
    return Scale(lowest(square_of(both[:2]), square_of(both[2:])))


def scale(one, other):
    """The first that is so: Thin, Apart, Uneven, or the Scale."""
    check_two(one, other)
    for number, picture in ((0, one), (1, other)):
        thin = thin_of(picture, number)
        if thin is not None:
            return thin
    return scale_between(one, other, (0, 1))
