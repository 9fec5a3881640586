"""Rows of a tray held against one another: multiples, sums, triangles, charts."""

from farseen.charts import Chart
from farseen.checks import lowest
from farseen.ratios import minus, over, plus, times
from farseen.tables import dependence


def is_thin(row):
    """Whether all its integers are 0."""
    return not any([number != 0 for number in row])


def are_multiples(row, its):
    """Whether one of both rows is a multiple of the other one."""
    return dependence([row, its]) is not None


def ways_to(one, other, third):
    """The x and y with which the third row is x times the one and y times the other, or None.

    The first two rows are no multiples of one another.
    """
    sums = dependence([one, other, third])
    if sums is None:
        return None
    return (lowest(-sums[0], sums[2]), lowest(-sums[1], sums[2]))


def is_triangle(ways):
    """Whether 1, x and y, without their signs, are the sides of a triangle that is not flat."""
    x, y = ways
    sides = [x[1] * y[1], abs(x[0]) * y[1], abs(y[0]) * x[1]]
    return 2 * max(sides) < sum(sides)


def c_by(ways):
    """The c of two rows if x times the one and y times the other is a row, too."""
    x, y = ways
    left = minus(minus((1, 1), times(x, x)), times(y, y))
    return over(left, times((2, 1), times(x, y)))


def product_at(c, ways, its):
    """The product of two rows that are x times the one and y times the other of two at c.

    It is the cosine between them, and 1 for a row of the chart at c with itself.
    """
    (x, y), (u, v) = ways, its
    crosswise = plus(times(x, v), times(y, u))
    return plus(plus(times(x, u), times(y, v)), times(c, crosswise))


def edge_chart(one, other, c):
    """The chart of two rows, no multiples of one another, at c."""
    number, by = c
    size = len(one)
    rows = [[by * by * (one[a] * one[b] + other[a] * other[b])
             - number * by * (one[a] * other[b] + other[a] * one[b])
             for b in range(size)] for a in range(size)]
    return Chart(rows, by * by - number * number)
