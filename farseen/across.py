"""Rows along an axis and across it, and the charts that they make."""

from farseen.charts import Chart


def square_of(direction):
    """The square of a direction in a picture."""
    m, n = direction
    return m * m + n * n


def row_along(rows, direction):
    """What the rows of a picture add up to, so many times."""
    m, n = direction
    return tuple([m * mine + n * its for mine, its in zip(rows[0], rows[1])])


def row_across(rows, direction):
    """The same for the direction that is a quarter further."""
    m, n = direction
    return row_along(rows, (-n, m))


def lines_of(one, other, axis):
    """The row along, and the row across of each picture, by the directions of the axis."""
    mine, its = axis
    return (row_along(one.rows, mine), row_across(one.rows, mine), row_across(other.rows, its))


def on_step(row, step):
    """What a row has of the pin to which the step goes, less that of the pin from which it comes."""
    start, end = step
    return (row[end - 1] if end > 0 else 0) - (row[start - 1] if start > 0 else 0)


def chart_by(c, square, lines):
    """The chart at c of the row along and both rows across, the axis having this square."""
    number, by = c
    a, p, q = lines
    least, wide, cross = by * by - number * number, by * by, number * by
    size = len(a)
    rows = [[0] * size for _ in range(size)]
    for k in range(size):
        for i in range(k + 1):
            told = (a[k] * a[i] * least + wide * (p[k] * p[i] + q[k] * q[i])
                    - cross * (p[k] * q[i] + q[k] * p[i]))
            rows[k][i] = told
            rows[i][k] = told
    return Chart(rows, least * square)
