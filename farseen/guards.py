"""Numbers that are passed for pins, pictures and steps: which errors they raise."""

from farseen.checks import first_twice, is_integer, is_list, is_ratio, is_within
from farseen.errors import BadNumber, BadRatio, Misfit, NoPicture, NoPin, Twice


def check_integer(value, part):
    """Raise BadNumber with this part unless the value is an integer."""
    if not is_integer(value):
        raise BadNumber(part)


def _first_wrong(values, many):
    """A tuple of the first that is no number below many, () if none is.

    If the values are no list, they themselves are what is wrong.
    """
    if not is_list(values):
        return (values,)
    for value in values:
        if not is_within(value, 0, many - 1):
            return (value,)
    return ()


def _check_unlike(values):
    if first_twice(values) is not None:
        raise Twice(first_twice(values))


def check_pin(value, many):
    """Raise NoPin unless the value is the number of one of so many pins."""
    if not is_within(value, 0, many - 1):
        raise NoPin(value)


def check_pins(values, many):
    """Raise NoPin or Twice unless the values are unlike pins of so many."""
    wrong = _first_wrong(values, many)
    if wrong:
        raise NoPin(wrong[0])
    _check_unlike(values)


def check_order(values, many):
    """Raise NoPin, Twice or Misfit unless the values are all so many pins."""
    check_pins(values, many)
    if len(values) < many:
        raise Misfit("pins")


def check_step(value, many):
    """Raise NoPin unless the value is a pair of pins of so many."""
    if not is_list(value) or len(value) != 2:
        raise NoPin(value)
    for pin in value:
        check_pin(pin, many)


def check_picture_number(value, many):
    """Raise NoPicture unless the value is the number of one of so many pictures or rows."""
    if not is_within(value, 0, many - 1):
        raise NoPicture(value)


def check_picture_numbers(values, many):
    """Raise NoPicture or Twice unless the values are unlike numbers of so many pictures or rows."""
    wrong = _first_wrong(values, many)
    if wrong:
        raise NoPicture(wrong[0])
    _check_unlike(values)


def check_c(value):
    """Raise BadRatio unless the value is a ratio between -1 and 1."""
    if not is_ratio(value) or abs(value[0]) >= value[1]:
        raise BadRatio("c")
