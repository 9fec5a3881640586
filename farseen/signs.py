"""Signs of x + y c + z c c, for all numbers c between -1 and 1."""

from farseen.checks import are_integers, lowest
from farseen.errors import BadNumber
from farseen.guards import check_c
from farseen.papers import Paper


class Signs(Paper):
    """A ratio c for each sign there is: below 0; 0, or below and above it; above 0."""

    def __init__(self, below, zero, above):
        super().__init__("signs", below, zero, above)
        self.below, self.zero, self.above = self.parts


def check_row(row):
    """Raise BadNumber unless the row is a list of three integers."""
    if not are_integers(row) or len(row) != 3:
        raise BadNumber("row")


def _turns_inside(y, z):
    """Whether the turning point is between -1 and 1."""
    return abs(y) < 2 * abs(z)


def _place_above(x, y, z):
    """A ratio c at which it is above 0, or None."""
    if x > 0:
        return (0, 1)
    if z < 0 and _turns_inside(y, z) and y * y > 4 * x * z:
        return lowest(-y, 2 * z)
    for end in (1, -1):
        worth = x + end * y + z
        if worth > 0:
            # So near to this end it is less than its worth there away from it.
            near = (abs(end * y + 2 * z) + abs(z)) // worth + 2
            return (end * (near - 1), near)
    return None


def _places_at_0(x, y, z):
    """The ratio at which it is 0 if it is never below 0, or never above; or None."""
    if x == 0 and y == 0 and z == 0:
        return ((0, 1),)
    if _turns_inside(y, z) and y * y == 4 * x * z:
        return (lowest(-y, 2 * z),)
    return None


def signs(row):
    """The Signs of three integers."""
    check_row(row)
    x, y, z = row
    below, above = _place_above(-x, -y, -z), _place_above(x, y, z)
    if below is not None and above is not None:
        return Signs(below, (below, above), above)
    return Signs(below, _places_at_0(x, y, z), above)


def sign_at(row, c):
    """-1, 0 or 1: the sign at c."""
    check_row(row)
    check_c(c)
    (x, y, z), (number, by) = row, c
    worth = x * by * by + y * number * by + z * number * number
    if worth == 0:
        return 0
    return 1 if worth > 0 else -1
