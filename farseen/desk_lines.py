"""The lines of a desk: deeds and asks, and how they are read."""

from farseen.checks import is_name
from farseen.errors import BadText
from farseen.pictures import picture_at
from farseen.sayings import saying_at
from farseen.texts import items_of, number_at
from farseen.trays import tray_row_at

DEEDS = ("album", "tray", "take", "row", "strike", "front", "unsay", "join", "upright", "drop")
ASKS = ("names", "show", "facts", "kind", "chart", "groups", "quarrels", "struck", "settling", "steady", "is", "fits",
        "fronts", "sizes", "same", "stands")
# What stands behind the first item of a line. What is told in the plural, or as a text, goes to the end of the line.
SHAPES = {
    "album": ("name", "picture"), "tray": ("name", "row"), "take": ("name", "picture"), "row": ("name", "row"),
    "strike": ("name", "numbers"), "front": ("name", "number", "number", "number"), "unsay": ("name", "numbers"),
    "join": ("name", "name", "name"), "upright": ("name", "name", "integers"), "drop": ("name",),
    "names": (), "show": ("name",), "facts": ("name",), "kind": ("name",), "chart": ("name",), "groups": ("name",),
    "quarrels": ("name",), "struck": ("name",), "settling": ("name",), "steady": ("name",), "is": ("name", "saying"),
    "fits": ("name", "picture"), "fronts": ("name",), "sizes": ("name",), "same": ("name", "name"),
    "stands": ("name",),
}
PLURAL = ("numbers", "integers")


def _name_at(items, at):
    if at >= len(items) or not is_name(items[at]):
        raise BadText(0, at)
    return items[at]


def _value_at(items, at, shape):
    """What stands there: a name, a number from 0 on, any integer, or the value of a text to the end of the line."""
    if shape == "name":
        return _name_at(items, at)
    if shape == "number" or shape == "numbers":
        return number_at(items, at, 0, None)
    if shape == "integers":
        return number_at(items, at, None, None)
    if shape == "picture":
        return picture_at(items, at)
    return tray_row_at(items, at) if shape == "row" else saying_at(items, at)


def first_item(line):
    """The first item of a line; BadText(0, 0) for what is no string."""
    return items_of(line)[0]


def read_line(line):
    """The first item of a line, and what the others stand for."""
    items = items_of(line)
    if items[0] not in SHAPES:
        raise BadText(0, 0)
    told = [items[0]]
    for shape in SHAPES[items[0]]:
        told.append(_value_at(items, len(told), shape))
        while shape in PLURAL and len(told) < len(items):
            told.append(_value_at(items, len(told), shape))
        if shape in ("picture", "row", "saying"):
            return tuple(told)
    if len(told) < len(items):
        raise BadText(0, len(told))
    return tuple(told)
