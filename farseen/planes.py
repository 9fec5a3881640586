"""Two rows held against others: minors, how rows are made of them, directions that make one row."""

from farseen.checks import primitive


def first_minor(one, other):
    """The first two columns at which both rows have a determinant other than 0, and it; None if they depend."""
    size = len(one)
    for a in range(size):
        x, y = one[a], other[a]
        if x != 0 or y != 0:
            # All columns ahead are 0: if none behind parts from this one, the rows depend.
            for b in range(a + 1, size):
                minor = x * other[b] - y * one[b]
                if minor != 0:
                    return (a, b, minor)
            return None
    return None


def parts_of(minor, one, other, row):
    """The x and y with which x times the one and y times the other, over the minor, have the row's two numbers."""
    a, b, _ = minor
    return (row[a] * other[b] - row[b] * other[a], one[a] * row[b] - one[b] * row[a])


def left_by(minor, one, other, row, parts):
    """What is left of the row, times the minor, without these parts."""
    by = minor[2]
    x, y = parts
    return [by * number - x * mine - y * its for number, mine, its in zip(row, one, other)]


def is_made_of(minor, one, other, row, parts):
    """Whether nothing is left."""
    by = minor[2]
    x, y = parts
    for number, mine, its in zip(row, one, other):
        if by * number != x * mine + y * its:
            return False
    return True


def _times_to_none(left, its):
    """How many times both rows, not both all 0, add up to 0; None if they do not depend."""
    for mine, other in zip(left, its):
        if mine != 0 or other != 0:
            s, t = other, -mine
            for number, another in zip(left, its):
                if s * number + t * another != 0:
                    return None
            return (s, t)
    return None


def joined_rank(rows, its):
    """The rank of two rows that do not depend and two others, and if it is three what they have in common.

    This is (m, n, s, t), primitive: m and n times the rows add up to the same as s and t times the others.
    """
    one, other = rows
    minor = first_minor(one, other)
    parts = [parts_of(minor, one, other, row) for row in its]
    left = [left_by(minor, one, other, row, part) for row, part in zip(its, parts)]
    if not any(left[0]) and not any(left[1]):
        return (2, None)
    both = _times_to_none(left[0], left[1])
    if both is None:
        return (4, None)
    s, t = both
    m = s * parts[0][0] + t * parts[1][0]
    n = s * parts[0][1] + t * parts[1][1]
    return (3, primitive((m, n, s * minor[2], t * minor[2])))
