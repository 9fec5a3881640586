"""Pictures: where each pin of a body stands, across and up."""

from farseen.checks import is_within
from farseen.errors import BadNumber, BadPicture, Misfit, TooMany
from farseen.guards import check_integer, check_order, check_pin
from farseen.places import LIMIT, are_places, check_room, steps_along
from farseen.planes import first_minor
from farseen.tables import products_of
from farseen.texts import items_of, places_at

FEWEST_PINS = 4
MOST_PINS = 7


class Picture:
    """The places of 4 to 7 pins."""

    def __init__(self, places):
        if not are_places(places, 2):
            raise BadPicture("places")
        self.places = tuple([tuple(place) for place in places])
        self.pins = len(self.places)
        self.rows = steps_along(self.places)

    def __eq__(self, other):
        return isinstance(other, Picture) and self.places == other.places

    def __str__(self):
        return " / ".join([f"{x} {y}" for x, y in self.places])

    @staticmethod
    def read(text):
        """The picture whose text this is."""
        return picture_at(items_of(text), 0)

    def products(self):
        """The products of the rows."""
        return products_of(self.rows)

    def is_thin(self):
        """Whether the rows depend."""
        return first_minor(self.rows[0], self.rows[1]) is None

    def shifted(self, x, y):
        """All places moved alike."""
        check_integer(x, "x")
        check_integer(y, "y")
        return _with_room([(a + x, b + y) for a, b in self.places])

    def turned(self, x=0, y=1):
        """Turned by two integers; a quarter if none is told."""
        check_integer(x, "x")
        check_integer(y, "y")
        return _with_room([(x * a - y * b, y * a + x * b) for a, b in self.places])

    def mirrored(self):
        """Across the other way."""
        return Picture([(-a, b) for a, b in self.places])

    def times(self, number):
        """Each number of a place so many times."""
        check_integer(number, "number")
        return _with_room([(number * a, number * b) for a, b in self.places])

    def in_order(self, pins):
        """All pins, the first told as 0 and so on."""
        check_order(pins, self.pins)
        return Picture([self.places[pin] for pin in pins])

    def without(self, pin):
        """Without this pin; those behind it are numbered one less."""
        check_pin(pin, self.pins)
        if self.pins == FEWEST_PINS:
            raise Misfit("pins")
        return Picture(self.places[:pin] + self.places[pin + 1:])

    def with_pin(self, x, y):
        """With a pin more, behind the others."""
        for number, part in ((x, "x"), (y, "y")):
            if not is_within(number, -LIMIT, LIMIT):
                raise BadNumber(part)
        if self.pins == MOST_PINS:
            raise TooMany("pins", MOST_PINS)
        return Picture(self.places + ((x, y),))


def _with_room(places):
    check_room(places)
    return Picture(places)


def picture_at(items, at):
    """The picture that the items write from there to their end."""
    places, _ = places_at(items, at, FEWEST_PINS, MOST_PINS, ())
    return Picture(places)


def check_picture(value, part):
    """Raise BadPicture with this part unless the value is a Picture."""
    if not isinstance(value, Picture):
        raise BadPicture(part)


def check_two(one, other):
    """Raise BadPicture or Misfit unless both are pictures of as many pins."""
    check_picture(one, "one")
    check_picture(other, "other")
    if one.pins != other.pins:
        raise Misfit("pins")
