"""What check functions ask of a paper: who made it, and whether its parts are the right ones."""

from farseen.checks import first_twice, is_integer, is_within
from farseen.papers import Paper


def is_made(value):
    """Whether it is a paper made by calling its class, and not one below this."""
    if not isinstance(value, Paper) or not hasattr(value, "parts"):
        return False
    return value.__class__.__name__.lower() == value.word


def is_same(value, right):
    """Whether it tells the integers, tuples and Nones of right; True and False are no integers."""
    if isinstance(right, tuple):
        if not isinstance(value, tuple) or len(value) != len(right):
            return False
        return all([is_same(mine, its) for mine, its in zip(value, right)])
    if right is None:
        return value is None
    return is_integer(value) and value == right


def is_lot(value, size, least, most):
    """Whether it is an ascending tuple of so many unlike integers from least to most."""
    if not isinstance(value, tuple) or len(value) != size:
        return False
    if not all([is_integer(item) for item in value]):
        return False
    if any([value[k] >= value[k + 1] for k in range(size - 1)]):
        return False
    return least <= value[0] and value[size - 1] <= most


def is_pair(value):
    """Whether it is a tuple of two integers."""
    return isinstance(value, tuple) and len(value) == 2 and is_integer(value[0]) and is_integer(value[1])


def are_pairs(value, many):
    """Whether it is a tuple of so many pairs of integers."""
    return isinstance(value, tuple) and len(value) == many and all([is_pair(item) for item in value])


def are_unlike(values, many):
    """Whether they are unlike integers from 0 on, below many."""
    return all([is_within(value, 0, many - 1) for value in values]) and first_twice(values) is None
