"""New pins: where one must stand that was seen in some pictures alone."""

from math import lcm
from itertools import combinations
from farseen.albums import check_album
from farseen.charts import Chart
from farseen.checks import primitive
from farseen.errors import Impossible, Misfit, TooMany
from farseen.papers import Denial, Paper
from farseen.points import first_four
from farseen.settled import One, settle
from farseen.spaces import along_row, check_told_places, cross, ratios_of, solved

MOST_PICTURES_FOR_NONE = 3
MOST_PINS = 6


class Place(Paper):
    """The mix of the new pin by four pins, and its place in each picture."""

    def __init__(self, four, mix, places):
        super().__init__("place", four, mix, places)
        self.four, self.mix, self.places = self.parts


class Line(Paper):
    """The places of a point on the line on which the pin is, and along what the line goes, in each picture."""

    def __init__(self, places, directions):
        super().__init__("line", places, directions)
        self.places, self.directions = self.parts


class Anywhere(Paper):
    """The new pin was seen in no picture."""

    def __init__(self):
        super().__init__("anywhere")


class NoPlace(Denial):
    """Pictures by which the new pin has no place."""

    def __init__(self, numbers):
        super().__init__("noplace", numbers)
        self.numbers = self.parts[0]


class Seen:
    """What the pictures of an album, and the places of a new pin in them, tell of its mix by four pins."""

    def __init__(self, album, places):
        self.four = first_four(album)
        others = [pin - 1 for pin in self.four[1:]]
        # For each picture, across and up: how far the steps go to the three pins, and the place of the first pin.
        self.ways = [[tuple([row[at] for at in others]) for row in picture.rows] for picture in album.pictures]
        self.starts = [picture.places[0] for picture in album.pictures]
        self.places = places
        self.numbers = [number for number, place in enumerate(places) if place is not None]

    def line_way(self, number):
        """Along what the line goes on which a picture tells a pin to be."""
        return cross(self.ways[number][0], self.ways[number][1])

    def mix_by(self, numbers):
        """A mix by which the pin is where these pictures tell it, three integers over one number, or None.

        With it goes whether it is the only one.
        """
        rows = [row for number in numbers for row in self.ways[number]]
        rights = [self.places[number][k] - self.starts[number][k] for number in numbers for k in range(2)]
        along = self.line_way(numbers[0])
        others = [k for k in range(2, len(rows)) if along_row(rows[k], along) != 0]
        third, right = (rows[others[0]], rights[others[0]]) if others else (along, 0)
        parts, by = solved([rows[0], rows[1], third], [rights[0], rights[1], right])
        if any([along_row(row, parts) != its * by for row, its in zip(rows, rights)]):
            return None
        return (parts, by, len(others) > 0)

    def places_by(self, parts, by):
        """The place in each picture of what is mixed so."""
        return [ratios_of([start[k] * by + along_row(ways[k], parts) for k in range(2)], by)
                for ways, start in zip(self.ways, self.starts)]


def check_new_pin(album, places):
    """The errors of both arguments, but for Misfit("rank")."""
    check_album(album, "album")
    check_told_places(places)
    if len(places) != len(album.pictures):
        raise Misfit("pictures")


def _first_without(seen):
    """The first lot of two or three pictures by which the pin has no place."""
    for size in range(2, MOST_PICTURES_FOR_NONE + 1):
        for lot in combinations(seen.numbers, size):
            if seen.mix_by(lot) is None:
                return lot
    return None


def _line(seen, parts, by):
    """The Line through this point."""
    along = seen.line_way(seen.numbers[0])
    directions = primitive([along_row(row, along) for ways in seen.ways for row in ways])
    pairs = [directions[2 * number:2 * number + 2] for number in range(len(seen.ways))]
    return Line(seen.places_by(parts, by), pairs)


def pin_seen(seen):
    """The paper on a new pin that was seen so."""
    if not seen.numbers:
        return Anywhere()
    told = seen.mix_by(seen.numbers)
    if told is None:
        return NoPlace(_first_without(seen))
    parts, by, is_sole = told
    if not is_sole:
        return _line(seen, parts, by)
    return Place(seen.four, ratios_of(parts, by), seen.places_by(parts, by))


def new_pin(album, places):
    """The Place, the Line, the Anywhere or the NoPlace of a new pin."""
    check_new_pin(album, places)
    return pin_seen(Seen(album, places))


def chart_with(album, places):
    """The Chart of an album of kind one with the new pin as its last one, or what `new_pin` tells."""
    check_new_pin(album, places)
    if album.pins > MOST_PINS:
        raise TooMany("pins", MOST_PINS)
    told = settle(album)
    if isinstance(told, Denial):
        raise Impossible(told)
    if not isinstance(told, One):
        raise Misfit("kind")
    its = new_pin(album, places)
    return _wider(told.chart, its.four, its.mix) if isinstance(its, Place) else its


def _wider(chart, four, mix):
    """The chart with a pin more, that is mixed so of four pins, the first of them pin 0."""
    by = lcm(mix[0][1], lcm(mix[1][1], mix[2][1]))
    parts = [(number * (by // its), pin - 1) for (number, its), pin in zip(mix, four[1:])]
    last = [sum([part * row[at] for part, at in parts]) for row in chart.rows]
    rows = [[number * by * by for number in row] + [its * by] for row, its in zip(chart.rows, last)]
    own = sum([part * last[at] for part, at in parts])
    return Chart(rows + [[its * by for its in last] + [own]], chart.by * by * by)
