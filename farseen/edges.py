"""Rows held against one another: multiples, sums, triangles, and charts of trays."""

from farseen.charts import Chart
from farseen.checks import lowest
from farseen.planes import first_minor, is_made_of, parts_of


def is_thin(row):
    """Whether all its integers are 0."""
    return not any(row)


def are_multiples(row, its):
    """Whether one of both rows is a multiple of the other one."""
    return first_minor(row, its) is None


def sums_to(one, other, third):
    """The x, the y, and what both are over, with which two rows, no multiples, make the third one, or None."""
    minor = first_minor(one, other)
    parts = parts_of(minor, one, other, third)
    if not is_made_of(minor, one, other, third, parts):
        return None
    return (parts[0], parts[1], minor[2])


def c_by_sums(sums):
    """The c of two rows that make another one so, None if 1, x and y make no triangle that is not flat."""
    x, y, by = sums
    number, twice = by * by - x * x - y * y, 2 * x * y
    return lowest(number, twice) if abs(number) < abs(twice) else None


def ways_to(one, other, third):
    """The x and y with which the third row is x times the one and y times the other, or None.

    The first two rows are no multiples of one another.
    """
    sums = sums_to(one, other, third)
    if sums is None:
        return None
    x, y, by = sums
    return (lowest(x, by), lowest(y, by))


def over_one(ways):
    """Both ratios over one number."""
    x, y = ways
    return (x[0] * y[1], y[0] * x[1], x[1] * y[1])


def product_at(c, sums, its):
    """The product of two rows that two others at c make so.

    It is the cosine between them, and 1 for a row of the chart at c with itself.
    """
    (x, y, by), (u, v, its_by) = sums, its
    number = (x * u + y * v) * c[1] + (x * v + y * u) * c[0]
    return lowest(number, by * its_by * c[1])


def edge_chart(one, other, c):
    """The chart of two rows, no multiples of one another, at c."""
    number, by = c
    wide, cross, size = by * by, number * by, len(one)
    rows = [[0] * size for _ in range(size)]
    for a in range(size):
        for b in range(a + 1):
            told = wide * (one[a] * one[b] + other[a] * other[b]) - cross * (one[a] * other[b] + other[a] * one[b])
            rows[a][b] = told
            rows[b][a] = told
    return Chart(rows, wide - number * number)
