"""Three pictures of which each two have an axis: corners and hinges, and the c that they tell.

Their axes are told as pairs of directions: of the first and second, the first and third, the second and third picture.
"""

from farseen.across import chart_by, lines_of, row_across, square_of
from farseen.checks import lowest, primitive
from farseen.edges import c_by_sums, sums_to, ways_to
from farseen.tables import determinant


def product_of(one, other):
    """The product of two directions in one picture."""
    return one[0] * other[0] + one[1] * other[1]


def _side_of(one, other):
    """How far the other direction goes to the side of the one, times how long this is."""
    return one[0] * other[1] - one[1] * other[0]


def are_hinged(axes):
    """Whether the rows along are multiples of one another: the first two axes tell it."""
    return _side_of(axes[0][0], axes[1][0]) == 0


def products_of_axes(axes):
    """The products of the axes, each told in the picture that they have in common."""
    (a, its_a), (b, its_b), (c, its_c) = axes
    ab, ac, bc = product_of(a, b), product_of(its_a, c), product_of(its_b, its_c)
    return ((square_of(a), ab, ac), (ab, square_of(b), bc), (ac, bc, square_of(c)))


def determinant_of_axes(axes):
    """The determinant of the products of the axes."""
    return determinant(products_of_axes(axes))


def c_of_corner(axes):
    """The c of the first two pictures of a corner, None if no body has the three.

    The pictures may be enlarged: the squares of both directions of an axis tell how much.
    """
    (a, its_a), (b, its_b), (c, its_c) = axes
    number = (product_of(its_b, its_c) * square_of(its_a) * square_of(b)
              - product_of(a, b) * product_of(its_a, c) * square_of(its_b))
    by = _side_of(a, b) * _side_of(its_a, c) * square_of(its_b)
    return lowest(number, by) if abs(number) < abs(by) else None


def ring_of(axes):
    """The scale of first and second picture, times that of second and third, divided by that of first and third.

    It is 1 if the three can be enlarged pictures of one body.
    """
    (a, its_a), (b, its_b), (c, its_c) = axes
    return lowest(square_of(a) * square_of(c) * square_of(its_b), square_of(its_a) * square_of(its_c) * square_of(b))


def sized_determinant(axes):
    """The determinant of the products of the axes, each told at the size of the first picture, a ratio."""
    (a, its_a), (b, its_b), (c, its_c) = axes
    ab = product_of(a, b)
    # All over the squares that the axes have in the second and in the third picture.
    by_a, by_b = square_of(its_a), square_of(its_b)
    both = by_a * by_b
    ac = product_of(its_a, c) * square_of(a) * by_b
    bc = product_of(its_b, its_c) * square_of(b) * by_a
    cc = square_of(c) * square_of(a) * by_b
    rows = ((square_of(a) * both, ab * both, ac), (ab * both, square_of(b) * both, bc), (ac, bc, cc))
    return lowest(determinant(rows), both * both * both)


def ends_of(axes):
    """The directions in the three pictures of a hinge that make one row along."""
    (mine, its), (again, third) = axes[:2]
    # The axis of first and third picture is this many times that of first and second.
    many, by = product_of(again, mine), square_of(mine)
    m, n, s, t, u, v = primitive([many * number for number in mine + its] + [by * number for number in third])
    return ((m, n), (s, t), (u, v))


def _rows_across(pictures, ends):
    return [row_across(picture.rows, end) for picture, end in zip(pictures, ends)]


def hinge_ratios(pictures, ends):
    """The x and y with which the rows across of the first two make that of the third, or None."""
    first, second, third = _rows_across(pictures, ends)
    return ways_to(first, second, third)


def c_of_three(pictures, axes):
    """The c of the first two pictures, None if no body has the three."""
    if not are_hinged(axes):
        return c_of_corner(axes)
    first, second, third = _rows_across(pictures, ends_of(axes))
    sums = sums_to(first, second, third)
    return None if sums is None else c_by_sums(sums)


def chart_of_three(pictures, axes):
    """The one chart of the three pictures, None if no body has them."""
    c = c_of_three(pictures, axes)
    if c is None:
        return None
    return chart_by(c, square_of(axes[0][0]), lines_of(pictures[0], pictures[1], axes[0]))
