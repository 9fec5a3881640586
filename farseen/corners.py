"""Corners and hinges: three pictures of unlike planes."""

from itertools import combinations
from farseen.albums import check_album
from farseen.axes import Axis, SamePlane, axis_between, thin_of
from farseen.errors import Impossible, Misfit
from farseen.guards import check_picture_numbers
from farseen.papers import Paper
from farseen.threes import are_hinged, ends_of, hinge_ratios, products_of_axes


class Corner(Paper):
    """Three axes, no row along a multiple of another one, and their products."""

    def __init__(self, axes, products):
        super().__init__("corner", axes, products)
        self.axes, self.products = self.parts


class Hinge(Paper):
    """The ends of one axis in three pictures, and how the third row across is made."""

    def __init__(self, ends, ratios):
        super().__init__("hinge", ends, ratios)
        self.ends, self.ratios = self.parts


def first_denial(album, lot):
    """The first reason of one or two of these pictures, or None."""
    for number in lot:
        thin = thin_of(album.pictures[number], number)
        if thin is not None:
            return thin
    for one, other in combinations(range(3), 2):
        two = (lot[one], lot[other])
        told = axis_between(album.pictures[two[0]], album.pictures[two[1]], two)
        if not isinstance(told, (Axis, SamePlane)):
            return told
    return None


def check_three(album, numbers):
    """The lot of three pictures, ascending, behind the errors of both arguments."""
    check_album(album, "album")
    check_picture_numbers(numbers, len(album.pictures))
    if len(numbers) != 3:
        raise Misfit("numbers")
    return tuple(sorted(numbers))


def corner_of(album, lot):
    """The Corner or Hinge of three pictures of which each two have an axis; Misfit if two are kin."""
    pictures = [album.pictures[number] for number in lot]
    axes = []
    for one, other in combinations(range(3), 2):
        told = axis_between(pictures[one], pictures[other], (one, other))
        if isinstance(told, SamePlane):
            raise Misfit("planes")
        axes.append(told.parts)
    if are_hinged(axes):
        ends = ends_of(axes)
        return Hinge(ends, hinge_ratios(pictures, ends))
    return Corner(axes, products_of_axes(axes))


def corner(album, numbers):
    """The Corner or the Hinge of three pictures."""
    lot = check_three(album, numbers)
    denial = first_denial(album, lot)
    if denial is not None:
        raise Impossible(denial)
    return corner_of(album, lot)
