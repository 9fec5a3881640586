"""Whether papers on depths and facts are right."""

from farseen.albums import check_album
from farseen.checks import are_integers, is_ratio
from farseen.errors import Misfit
from farseen.exact import is_lot, is_made, is_same
from farseen.fronts import Against, Depths, Hands, Order, Ranges, check_many, check_told_facts, paper_left
from farseen.guards import check_picture_number
from farseen.papers import Denial
from farseen.readings import HeldFacts, OrderReadings, depths_in, readings_of
from farseen.settled import One, settle


def shows_depths(album, picture, value):
    """Whether it is a Depths of any ratio and row that tell the same depths."""
    check_album(album, "album")
    check_picture_number(picture, len(album.pictures))
    told = settle(album)
    if isinstance(told, Denial):
        return False
    if not isinstance(told, One):
        raise Misfit("kind")
    if not is_made(value) or not isinstance(value, Depths):
        return False
    return _are_depths(value.parts, depths_in(told.chart, album.pictures[picture]))


def _are_depths(parts, right):
    """Whether the root of the ratio, times the row, is as the right one for each pin."""
    (ratio, row), (its_ratio, its_row) = parts, right
    if not is_ratio(ratio) or ratio[0] <= 0 or not are_integers(row) or len(row) != len(its_row):
        return False
    # With its sign, the square of a depth tells the depth.
    return all([mine * abs(mine) * ratio[0] * its_ratio[1] == its * abs(its) * its_ratio[0] * ratio[1]
                for mine, its in zip(row, its_row)])


def shows_fronts(album, facts, value):
    """Whether it is the Hands, the Ranges, any Order of the facts, or any Against."""
    check_told_facts(album, facts)
    check_many(facts)
    told = settle(album)
    if isinstance(told, Denial) or not is_made(value):
        return False
    held = HeldFacts(readings_of(album, told), facts)
    if isinstance(value, Against):
        return _are_against(held, value.parts[0])
    if isinstance(value, Order):
        return _is_order(held, value.parts[0])
    left = held.readings.left_by(held.lets)
    return isinstance(value, (Hands, Ranges)) and left is not None and _is_told(value, paper_left(held.readings, left))


def _is_told(value, right):
    return value.word == right.word and is_same(value.parts, right.parts)


def _are_against(held, numbers):
    if not isinstance(numbers, tuple) or not numbers:
        return False
    return is_lot(numbers, len(numbers), 0, len(held.lets) - 1) and held.is_amiss(numbers)


def _is_order(held, pins):
    """Whether they are all pins, each near one ahead of its far one."""
    if not isinstance(held.readings, OrderReadings) or not are_integers(pins):
        return False
    if sorted(list(pins)) != list(range(held.readings.pins)):
        return False
    return all([pins.index(near) < pins.index(far) for near, far in held.lets])
