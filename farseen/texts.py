"""Reading texts: items with single blanks between."""

from farseen.checks import is_within
from farseen.errors import BadText
from farseen.places import LIMIT

MOST_DIGITS = 60


def items_of(text):
    """The items of a text; BadText(0, 0) for what is no string."""
    if not isinstance(text, str):
        raise BadText(0, 0)
    return text.split(" ")


def _is_written(item):
    digits = item[1:] if item.startswith("-") else item
    if not 1 <= len(digits) <= MOST_DIGITS or not (digits.isascii() and digits.isdigit()):
        return False
    return item == "0" or digits[0] != "0"


def number_at(items, at, least, most):
    """The integer, from least to most, that the item there writes.

    A missing item has the number of items as its index, so one error tells both.
    """
    if at >= len(items) or not _is_written(items[at]):
        raise BadText(0, at)
    number = int(items[at])
    if not is_within(number, least, most):
        raise BadText(0, at)
    return number


def _ends_at(items, at, ends):
    return at == len(items) or items[at] in ends


def row_at(items, at, fewest, most, ends):
    """A row of so many numbers from there on, and the index behind it.

    Behind it is the end of the items, or an item of ends.
    """
    row = []
    while len(row) < fewest or not _ends_at(items, at, ends):
        if len(row) == most:
            raise BadText(0, at)
        row.append(number_at(items, at, -LIMIT, LIMIT))
        at += 1
    return row, at


def places_at(items, at, fewest, most, ends):
    """So many places from there on, with `/` between, and the index behind them.

    Behind them is the end of the items, or an item of ends.
    """
    places = []
    while len(places) < fewest or not _ends_at(items, at, ends):
        if places:
            at = _behind_slash(items, at, len(places) < most)
        places.append((number_at(items, at, -LIMIT, LIMIT), number_at(items, at + 1, -LIMIT, LIMIT)))
        at += 2
    return places, at


def _behind_slash(items, at, can_stand):
    if not can_stand or at == len(items) or items[at] != "/":
        raise BadText(0, at)
    return at + 1
