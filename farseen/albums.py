"""Albums: pictures of the same pins."""

from farseen.checks import is_list
from farseen.errors import BadAlbum, BadPicture, Misfit, TooMany
from farseen.guards import check_picture_numbers
from farseen.pictures import FEWEST_PINS, MOST_PINS, Picture, check_picture
from farseen.places import are_rows
from farseen.texts import items_of, places_at

MOST_PICTURES = 8


class Album:
    """1 to 8 pictures, all of as many pins."""

    def __init__(self, pictures):
        if not is_list(pictures) or not pictures:
            raise BadAlbum("pictures")
        if not all([isinstance(picture, Picture) for picture in pictures]):
            raise BadAlbum("pictures")
        self.pins = pictures[0].pins
        if any([picture.pins != self.pins for picture in pictures]):
            raise Misfit("pins")
        if len(pictures) > MOST_PICTURES:
            raise TooMany("pictures", MOST_PICTURES)
        self.pictures = tuple(pictures)
        self.rows = tuple([row for picture in self.pictures for row in picture.rows])

    def __len__(self):
        return len(self.pictures)

    def __eq__(self, other):
        return isinstance(other, Album) and self.pictures == other.pictures

    def __str__(self):
        return " ; ".join([str(picture) for picture in self.pictures])

    @staticmethod
    def read(text):
        """The album whose text this is."""
        items = items_of(text)
        places, at = places_at(items, 0, FEWEST_PINS, MOST_PINS, (";",))
        pictures, many = [Picture(places)], len(places)
        while at < len(items):
            ends = (";",) if len(pictures) + 1 < MOST_PICTURES else ()
            places, at = places_at(items, at + 1, many, many, ends)
            pictures.append(Picture(places))
        return Album(pictures)

    def with_picture(self, picture):
        """With this picture behind the others."""
        check_picture(picture, "picture")
        return Album(self.pictures + (picture,))

    def joined(self, other):
        """With the pictures of the other album behind its own."""
        check_album(other, "other")
        return Album(self.pictures + other.pictures)

    def picked(self, numbers):
        """The pictures with these numbers, in the order told."""
        check_picture_numbers(numbers, len(self.pictures))
        return Album([self.pictures[number] for number in numbers])

    def without(self, numbers):
        """All pictures but those with these numbers."""
        many = len(self.pictures)
        check_picture_numbers(numbers, many)
        return Album([self.pictures[number] for number in range(many) if number not in numbers])

    def in_order(self, pins):
        """All pins of each picture, the first told as 0 and so on."""
        return Album([picture.in_order(pins) for picture in self.pictures])

    def without_pin(self, pin):
        """Each picture without this pin."""
        return Album([picture.without(pin) for picture in self.pictures])

    def with_pin(self, places):
        """With a pin more, one place for each picture."""
        if not are_rows(places, 2):
            raise BadPicture("places")
        if len(places) != len(self.pictures):
            raise Misfit("pictures")
        return Album([picture.with_pin(x, y) for picture, (x, y) in zip(self.pictures, places)])


def check_album(value, part):
    """Raise BadAlbum with this part unless the value is an Album."""
    if not isinstance(value, Album):
        raise BadAlbum(part)
