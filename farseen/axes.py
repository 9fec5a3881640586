"""Axes: what two pictures of one body have in common, or why no body has both."""

from farseen.kin import Kin, kin
from farseen.papers import Denial, Paper
from farseen.pictures import check_two
from farseen.planes import first_minor, joined_rank
from farseen.tables import dependence, rank


class Axis(Paper):
    """The directions in both pictures that make one row, their squares equal."""

    def __init__(self, mine, its):
        super().__init__("axis", mine, its)
        self.mine, self.its = self.parts


class SamePlane(Denial):
    """Both pictures have one plane, and are kin with this hand."""

    def __init__(self, hand):
        super().__init__("sameplane", hand)
        self.hand = self.parts[0]


class Thin(Denial):
    """The rows of this picture, so many times, add up to 0."""

    def __init__(self, number, row):
        super().__init__("thin", number, row)
        self.number, self.row = self.parts


class Apart(Denial):
    """The four rows of two pictures have at these pins a determinant other than 0."""

    def __init__(self, one, other, pins):
        super().__init__("apart", one, other, pins)
        self.one, self.other, self.pins = self.parts


class Unalike(Denial):
    """Two pictures have one plane, and these pins have unlike products in both."""

    def __init__(self, one, other, pin, its):
        super().__init__("unalike", one, other, pin, its)
        self.one, self.other, self.pin, self.its = self.parts


class Unequal(Denial):
    """The directions in two pictures that make one row, their squares unlike."""

    def __init__(self, one, other, mine, its):
        super().__init__("unequal", one, other, mine, its)
        self.one, self.other, self.mine, self.its = self.parts


def thin_of(picture, number):
    """The Thin of a picture, told by this number, or None."""
    if first_minor(picture.rows[0], picture.rows[1]) is not None:
        return None
    return Thin(number, dependence(picture.rows))


def _in_one_plane(one, other, numbers):
    told = kin(one, other)
    if isinstance(told, Kin):
        return SamePlane(told.hand)
    return Unalike(numbers[0], numbers[1], told.pin, told.its)


def apart_of(one, other, numbers):
    """The Apart of two pictures whose rows have the rank four, told by these numbers."""
    columns = rank(one.rows + other.rows).columns
    return Apart(numbers[0], numbers[1], [column + 1 for column in columns])


def axis_between(one, other, numbers):
    """What `axis` tells of two pictures that are not thin, told by these numbers."""
    many, both = joined_rank(one.rows, other.rows)
    if many == 2:
        return _in_one_plane(one, other, numbers)
    if many == 4:
        return apart_of(one, other, numbers)
    m, n, s, t = both
    if m * m + n * n == s * s + t * t:
        return Axis((m, n), (s, t))
    return Unequal(numbers[0], numbers[1], (m, n), (s, t))


def axis(one, other):
    """The first that is so: Thin, Apart, SamePlane or Unalike, Axis or Unequal."""
    check_two(one, other)
    for number, picture in ((0, one), (1, other)):
        thin = thin_of(picture, number)
        if thin is not None:
            return thin
    return axis_between(one, other, (0, 1))
