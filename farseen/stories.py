"""Stories of desks: told again, and held against one another."""

from farseen.checks import is_list
from farseen.desk import Desk, check_desk
from farseen.desk_lines import ASKS, first_item
from farseen.errors import BadDesk, BadLine, BadText, SeenError


def replay(lines):
    """A new desk that is told these deed lines."""
    if not is_list(lines) or not all([isinstance(line, str) for line in lines]):
        raise BadDesk("lines")
    desk = Desk()
    for index, line in enumerate(lines):
        if first_item(line) in ASKS:
            raise BadLine(index, BadText(0, 0))
        try:
            desk(line)
        except SeenError as error:
            raise BadLine(index, error)
    return desk


def parting(one, other):
    """How many lines the stories of both desks begin with alike."""
    check_desk(one, "one")
    check_desk(other, "other")
    many = 0
    for line, its in zip(one.story, other.story):
        if line != its:
            return many
        many += 1
    return many
