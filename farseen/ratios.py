"""Reckoning with ratios: pairs (number, by) of integers in lowest terms."""

from farseen.checks import is_ratio, lowest
from farseen.errors import BadRatio


def _check_both(one, other):
    if not is_ratio(one):
        raise BadRatio("one")
    if not is_ratio(other):
        raise BadRatio("other")


def plus(one, other):
    """The sum of both."""
    _check_both(one, other)
    return lowest(one[0] * other[1] + other[0] * one[1], one[1] * other[1])


def minus(one, other):
    """The first less the second."""
    _check_both(one, other)
    return lowest(one[0] * other[1] - other[0] * one[1], one[1] * other[1])


def times(one, other):
    """The product of both."""
    _check_both(one, other)
    return lowest(one[0] * other[0], one[1] * other[1])


def over(one, other):
    """The first divided by the second, which is not 0."""
    _check_both(one, other)
    if other[0] == 0:
        raise BadRatio("other")
    return lowest(one[0] * other[1], one[1] * other[0])


def compared(one, other):
    """-1, 0 or 1, as the first one is less, equal, greater."""
    _check_both(one, other)
    difference = one[0] * other[1] - other[0] * one[1]
    if difference == 0:
        return 0
    return 1 if difference > 0 else -1
