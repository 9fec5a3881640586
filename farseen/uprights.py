"""Standing albums: all pictures tell one row along."""

from math import lcm
from farseen.across import row_across, row_along
from farseen.albums import Album
from farseen.checks import is_list, primitive
from farseen.errors import BadNumber, Misfit
from farseen.kin import groups
from farseen.papers import Denial, Paper
from farseen.pictures import FEWEST_PINS, Picture
from farseen.places import is_row
from farseen.planes import first_minor, is_made_of, joined_rank, parts_of
from farseen.settled import settled_paper
from farseen.tables import rank
from farseen.trays import check_tray


class Standing(Paper):
    """The direction of each picture, the row along that all tell, and the rows across, of all pins."""

    def __init__(self, directions, along, across):
        super().__init__("standing", directions, along, across)
        self.directions, self.along, self.across = self.parts


class NoAxis(Denial):
    """There are no two unlike planes."""

    def __init__(self):
        super().__init__("noaxis")


class Leaning(Denial):
    """The axis of the first two pictures of unlike planes is not in the plane of another one, as three pins show."""

    def __init__(self, one, other, number, pins):
        super().__init__("leaning", one, other, number, pins)
        self.one, self.other, self.number, self.pins = self.parts


def upright(tray, along):
    """The album of the tray whose pins stand so far along its axis."""
    check_tray(tray, "tray")
    if not is_list(along) or not is_row(along, 0, len(along)):
        raise BadNumber("along")
    if len(along) != tray.pins or tray.pins < FEWEST_PINS:
        raise Misfit("pins")
    return Album([Picture(list(zip(along, row))) for row in tray.places])


def axis_row(album, two):
    """What the axis of two pictures of unlike planes has along, of an album that is not none's."""
    one, other = [album.pictures[number] for number in two]
    _, both = joined_rank(one.rows, other.rows)
    return row_along(one.rows, both[:2])


def first_unlike(album):
    """The first two pictures of unlike planes of an album that is not none's, None if there are none."""
    lots = groups(album)
    return (lots[0][0], lots[1][0]) if len(lots) > 1 else None


def _way_to(picture, row):
    """Two integers and what they are over: so many times the rows of the picture make the row; None if they do not."""
    one, other = picture.rows
    minor = first_minor(one, other)
    parts = parts_of(minor, one, other, row)
    return parts + (minor[2],) if is_made_of(minor, one, other, row, parts) else None


def _standing(pictures, ways):
    """The Standing, by what makes the row along of each picture."""
    by = 1
    for _, _, its in ways:
        by = lcm(by, its)
    numbers = primitive([number * (by // its) for x, y, its in ways for number in (x, y)])
    directions = [numbers[at:at + 2] for at in range(0, len(numbers), 2)]
    across = [(0,) + row_across(picture.rows, direction) for picture, direction in zip(pictures, directions)]
    return Standing(directions, (0,) + row_along(pictures[0].rows, directions[0]), across)


def standing_by(album):
    """What `standing` tells of an album that is not none's."""
    two = first_unlike(album)
    if two is None:
        return NoAxis()
    row, ways = axis_row(album, two), []
    for number, picture in enumerate(album.pictures):
        way = _way_to(picture, row)
        if way is None:
            columns = rank((row,) + picture.rows).columns
            return Leaning(two[0], two[1], number, [column + 1 for column in columns])
        ways.append(way)
    return _standing(album.pictures, ways)


def standing(album):
    """The Standing of an album, the NoAxis, or the Leaning."""
    settled_paper(album)
    return standing_by(album)
