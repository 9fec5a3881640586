"""Pins in the space that three rows of an album span, and points that are made of them."""

from farseen.checks import are_integers, is_list, lowest
from farseen.errors import BadNumber, Misfit
from farseen.tables import rank


def check_told_places(places):
    """Raise BadNumber unless it is a list of pairs of integers, and Nones."""
    if not is_list(places) or not all([_is_told_place(place) for place in places]):
        raise BadNumber("places")


def _is_told_place(value):
    return value is None or are_integers(value) and len(value) == 2


def spanned(album):
    """The Rank of the rows of an album; Misfit for one that is not spread."""
    told = rank(album.rows)
    if told.many != 3 or any([picture.is_thin() for picture in album.pictures]):
        raise Misfit("rank")
    return told


def points_in(album, told):
    """For each pin where it stands along three rows that do not depend, pin 0 at 0."""
    rows = [album.rows[at] for at in told.rows]
    return [(0, 0, 0)] + [tuple([row[at] for row in rows]) for at in range(album.pins - 1)]


def step_between(point, its):
    """How far the step from the one point to the other goes along each row."""
    return tuple([end - start for start, end in zip(point, its)])


def cross(one, other):
    """Three numbers whose products with both rows of three are 0, not all 0 if these do not depend."""
    (a, b, c), (d, e, f) = one, other
    return (b * f - c * e, c * d - a * f, a * e - b * d)


def along_row(row, its):
    """What both rows of three have, multiplied, added up."""
    return row[0] * its[0] + row[1] * its[1] + row[2] * its[2]


def solved(rows, rights):
    """Three integers, and a number that all are over, with which each of three rows comes to its right side.

    The rows do not depend.
    """
    crosses = (cross(rows[1], rows[2]), cross(rows[2], rows[0]), cross(rows[0], rows[1]))
    parts = [sum([right * row[k] for right, row in zip(rights, crosses)]) for k in range(3)]
    return (parts, along_row(rows[0], crosses[0]))


def ratios_of(parts, by):
    """The ratios of integers that all are over one number."""
    return tuple([lowest(part, by) for part in parts])
