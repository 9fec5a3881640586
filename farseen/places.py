"""Where pins stand: bounded integers, and how far the steps from pin 0 go."""

from farseen.checks import is_list, is_within
from farseen.errors import TooMany

LIMIT = 10 ** 9


def is_row(value, fewest, most):
    """Whether it is a list of so many integers, none beyond 10 ** 9 without its sign."""
    if not is_list(value) or not fewest <= len(value) <= most:
        return False
    return all([is_within(item, -LIMIT, LIMIT) for item in value])


def are_rows(value, size):
    """Whether it is a list of rows, perhaps of none, each of this size."""
    return is_list(value) and all([is_row(row, size, size) for row in value])


def are_places(value, size):
    """Whether it is a list of the places of 4 to 7 pins, each of this size."""
    return are_rows(value, size) and 4 <= len(value) <= 7


def check_room(places):
    """Raise TooMany if a number of a place is beyond 10 ** 9, without its sign."""
    for place in places:
        if max([abs(number) for number in place]) > LIMIT:
            raise TooMany("places", LIMIT)


def steps_along(places):
    """For each direction, how far the steps from the first place to the others go."""
    start = places[0]
    return tuple([tuple([place[k] - start[k] for place in places[1:]]) for k in range(len(start))])
