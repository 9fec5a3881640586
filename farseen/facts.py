"""Facts: that in a picture one pin is nearer than another one."""

from farseen.albums import MOST_PICTURES
from farseen.checks import is_list, is_within
from farseen.errors import BadFact, BadNumber, BadText
from farseen.pictures import MOST_PINS
from farseen.texts import items_of, number_at


class Fact:
    """In this picture the near pin has less depth than the far one."""

    def __init__(self, picture, near, far):
        if not is_within(picture, 0, MOST_PICTURES - 1):
            raise BadNumber("picture")
        for value, part in ((near, "near"), (far, "far")):
            if not is_within(value, 0, MOST_PINS - 1):
                raise BadNumber(part)
        if near == far:
            raise BadFact("pins")
        self.picture = picture
        self.near = near
        self.far = far

    def __eq__(self, other):
        return (isinstance(other, Fact) and self.picture == other.picture and self.near == other.near
                and self.far == other.far)

    def __str__(self):
        return f"{self.picture} {self.near} {self.far}"

    @staticmethod
    def read(text):
        """The fact whose text this is."""
        items = items_of(text)
        picture = number_at(items, 0, 0, MOST_PICTURES - 1)
        near, far = [number_at(items, at, 0, MOST_PINS - 1) for at in (1, 2)]
        if near == far:
            raise BadText(0, 2)
        if len(items) > 3:
            raise BadText(0, 3)
        return Fact(picture, near, far)

    def turned(self):
        """Near and far exchanged."""
        return Fact(self.picture, self.far, self.near)


def are_facts(value):
    """Whether it is a list of facts, perhaps of none."""
    return is_list(value) and all([isinstance(item, Fact) for item in value])
