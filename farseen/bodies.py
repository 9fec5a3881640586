"""Bodies: pins in space, turned and photographed."""

from math import lcm
from farseen.albums import Album, MOST_PICTURES
from farseen.charts import Chart
from farseen.checks import are_integers, is_list, is_within
from farseen.errors import BadBody, BadNumber, TooMany
from farseen.guards import check_order
from farseen.pictures import Picture
from farseen.places import are_places, check_room, steps_along
from farseen.tables import products, rank

MOST_IN_FOUR = 9


class Body:
    """The places of 4 to 7 pins, not all in one plane: across, up, and away."""

    def __init__(self, places):
        if not are_places(places, 3):
            raise BadBody("places")
        self.places = tuple([tuple(place) for place in places])
        self.pins = len(self.places)
        self.rows = steps_along(self.places)
        if rank(self.rows).many < 3:
            raise BadBody("flat")

    def __eq__(self, other):
        return isinstance(other, Body) and self.places == other.places

    def chart(self):
        """The products of all steps."""
        return Chart(products(self.rows))

    def depths(self):
        """How far the steps from pin 0 go away."""
        return self.rows[2]

    def seen(self):
        """The picture: across and up alone."""
        return Picture([(x, y) for x, y, _ in self.places])

    def mirrored(self):
        """Away the other way."""
        return Body([(x, y, -z) for x, y, z in self.places])

    def turned(self, four):
        """Turned by a four; all lengths are as many times as long as its size."""
        if not _is_four(four):
            raise BadNumber("four")
        return _with_room([_turned_place(four, place) for place in self.places])

    def moved(self, by):
        """All places moved by these three integers."""
        if not are_integers(by) or len(by) != 3:
            raise BadNumber("by")
        return _with_room([[number + more for number, more in zip(place, by)] for place in self.places])

    def in_order(self, pins):
        """All pins, the first told as 0 and so on."""
        check_order(pins, self.pins)
        return Body([self.places[pin] for pin in pins])

    def album(self, fours):
        """A picture for each four, all enlarged alike."""
        if not is_list(fours) or not fours or not all([_is_four(four) for four in fours]):
            raise BadNumber("fours")
        if len(fours) > MOST_PICTURES:
            raise TooMany("pictures", MOST_PICTURES)
        common = 1
        for four in fours:
            common = lcm(common, _size_of(four))
        return Album([self._picture_of(four, common // _size_of(four)) for four in fours])

    def _picture_of(self, four, number):
        turned = [_turned_place(four, place) for place in self.places]
        places = [(number * x, number * y) for x, y, _ in turned]
        check_room(places)
        return Picture(places)


def _is_four(value):
    if not is_list(value) or len(value) != 4:
        return False
    if not all([is_within(number, -MOST_IN_FOUR, MOST_IN_FOUR) for number in value]):
        return False
    return any([number != 0 for number in value])


def _size_of(four):
    return sum([number * number for number in four])


def _turned_place(four, place):
    (a, b, c, d), (x, y, z) = four, place
    return (
        (a * a + b * b - c * c - d * d) * x + 2 * (b * c - a * d) * y + 2 * (b * d + a * c) * z,
        2 * (b * c + a * d) * x + (a * a - b * b + c * c - d * d) * y + 2 * (c * d - a * b) * z,
        2 * (b * d - a * c) * x + 2 * (c * d + a * b) * y + (a * a - b * b - c * c + d * d) * z)


def _with_room(places):
    check_room(places)
    return Body(places)
