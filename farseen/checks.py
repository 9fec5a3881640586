"""What any value is: an integer, a ratio, a name; and numbers in lowest terms."""

from math import gcd
from farseen.errors import BadNumber

LETTERS = "abcdefghijklmnopqrstuvwxyz"
DIGITS = "0123456789"
LONGEST_NAME = 12


def is_integer(value):
    """Whether it is an integer; True and False are none."""
    return isinstance(value, int) and not isinstance(value, bool)


def is_within(value, least, most):
    """Whether it is an integer from least to most; None is no bound."""
    if not is_integer(value):
        return False
    return (least is None or least <= value) and (most is None or value <= most)


def is_name(value):
    """Whether it is a name: 1 to 12 small letters and digits, a letter first."""
    if not isinstance(value, str) or not 1 <= len(value) <= LONGEST_NAME:
        return False
    return value[0] in LETTERS and all([sign in LETTERS + DIGITS for sign in value])


def is_list(value):
    """Whether it is a list or a tuple."""
    return isinstance(value, (list, tuple))


def are_integers(value):
    """Whether it is a list or tuple of integers, perhaps of none."""
    return is_list(value) and all([is_integer(item) for item in value])


def is_ratio(value):
    """Whether it is a pair (number, by) in lowest terms, by above 0."""
    if not are_integers(value) or len(value) != 2:
        return False
    return value[1] > 0 and gcd(value[0], value[1]) == 1


def is_primitive(value):
    """Whether it is a list of integers, not all 0, that are primitive."""
    if not are_integers(value):
        return False
    heads = [item for item in value if item != 0]
    return len(heads) > 0 and heads[0] > 0 and common_divisor(heads) == 1


def first_twice(values):
    """The first of these integers or strings that equals one ahead of it, or None."""
    seen = set()
    for value in values:
        if value in seen:
            return value
        seen.add(value)
    return None


def common_divisor(values):
    """The greatest integer that divides all; 0 if all are 0 or there is none."""
    if not are_integers(values):
        raise BadNumber("values")
    found = 0
    for value in values:
        found = gcd(found, value)
    return found


def primitive(values):
    """The primitive tuple of which these integers are a multiple; all 0 as they are."""
    divisor = common_divisor(values)
    if divisor == 0:
        return tuple(values)
    if [value for value in values if value != 0][0] < 0:
        divisor = -divisor
    return tuple([value // divisor for value in values])


def lowest(number, by):
    """The ratio number / by; by may be below 0."""
    if not is_integer(number):
        raise BadNumber("number")
    if not is_integer(by) or by == 0:
        raise BadNumber("by")
    divisor = gcd(number, by)
    if by < 0:
        divisor = -divisor
    return (number // divisor, by // divisor)
