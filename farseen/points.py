"""Pins that are made of four others, and new pictures that are told in part."""

from farseen.albums import check_album
from farseen.checks import lowest
from farseen.errors import Misfit
from farseen.guards import check_pin, check_pins
from farseen.papers import Denial, Paper
from farseen.spaces import along_row, check_told_places, cross, points_in, ratios_of, solved, spanned, step_between
from farseen.tables import dependence


class Mix(Paper):
    """The three ratios by which a pin is made of four others."""

    def __init__(self, ratios):
        super().__init__("mix", ratios)
        self.ratios = self.parts[0]


class InPlane(Denial):
    """Four pins are in a plane: so many times the steps from the first one add up to 0."""

    def __init__(self, row):
        super().__init__("inplane", row)
        self.row = self.parts[0]


class Foretold(Paper):
    """The places of all pins in a new picture, pairs of ratios."""

    def __init__(self, places):
        super().__init__("foretold", places)
        self.places = self.parts[0]


class Loose(Denial):
    """The pins whose places in a new picture are not told."""

    def __init__(self, pins):
        super().__init__("loose", pins)
        self.pins = self.parts[0]


class Amiss(Denial):
    """The first told pin that those told ahead of it put elsewhere."""

    def __init__(self, pin):
        super().__init__("amiss", pin)
        self.pin = self.parts[0]


def mix(album, four, pin):
    """The Mix of a pin by four pins, or their InPlane."""
    check_album(album, "album")
    check_pins(four, album.pins)
    if len(four) != 4:
        raise Misfit("pins")
    check_pin(pin, album.pins)
    points = points_in(album, spanned(album))
    first = points[four[0]]
    steps = [step_between(first, points[its]) for its in four[1:]]
    if along_row(steps[0], cross(steps[1], steps[2])) == 0:
        return InPlane(dependence(steps))
    # Each of the three rows tells so many times its steps to the three pins.
    rows = [tuple([step[k] for step in steps]) for k in range(3)]
    parts, by = solved(rows, step_between(first, points[pin]))
    return Mix(ratios_of(parts, by))


def first_four(album):
    """The first lot of pins that are not in a plane."""
    check_album(album, "album")
    return (0,) + tuple([column + 1 for column in spanned(album).columns])


def _place_by(heads, parts):
    """The place that the pins told ahead give: parts of these, and of the pin itself, add up to 0."""
    own = parts[len(heads)]
    return tuple([lowest(-sum([part * place[k] for part, (_, place) in zip(parts, heads)]), own) for k in range(2)])


def _parts_by(heads, point):
    """How many times the points of the heads, and this one, add up to 0, as the numbers of times do; or None."""
    return dependence([(1,) + its for its, _ in heads] + [(1,) + point])


def foretold(album, places):
    """The Foretold of a new picture in which the places of some pins are told, or the Amiss, or the Loose."""
    check_album(album, "album")
    check_told_places(places)
    if len(places) != album.pins:
        raise Misfit("pins")
    points = points_in(album, spanned(album))
    heads = []
    for pin, place in enumerate(places):
        if place is not None:
            parts = _parts_by(heads, points[pin])
            if parts is None:
                heads.append((points[pin], place))
            elif _place_by(heads, parts) != ((place[0], 1), (place[1], 1)):
                return Amiss(pin)
    told = [_parts_by(heads, point) for point in points]
    loose = [pin for pin, parts in enumerate(told) if parts is None]
    if loose:
        return Loose(loose)
    return Foretold([_place_by(heads, parts) for parts in told])
