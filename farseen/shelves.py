"""Shelves: the things that a desk keeps, each under a name, with facts of the albums."""

from farseen.albums import Album
from farseen.checks import first_twice, is_list, is_name
from farseen.errors import BadDesk, NoName, Twice
from farseen.facts import are_facts
from farseen.fronts import MOST_FACTS
from farseen.trays import Tray


def _fits(fact, album):
    """Whether the album has the picture and the pins of the fact."""
    return fact.picture < len(album.pictures) and fact.near < album.pins and fact.far < album.pins


def _is_thing(value):
    """Whether it is a triple of a name, an album or a tray, and facts that fit it."""
    if not is_list(value) or len(value) != 3:
        return False
    name, thing, facts = value
    if not is_name(name) or not are_facts(facts):
        return False
    if isinstance(thing, Tray):
        return len(facts) == 0
    return isinstance(thing, Album) and len(facts) <= MOST_FACTS and all([_fits(fact, thing) for fact in facts])


class Shelf:
    """Albums and trays under their names, in the order in which they were put in."""

    def __init__(self, things=()):
        if not is_list(things) or not all([_is_thing(thing) for thing in things]):
            raise BadDesk("things")
        self.names = tuple([name for name, _, _ in things])
        again = first_twice(self.names)
        if again is not None:
            raise Twice(again)
        self.things = tuple([(name, thing, tuple(facts)) for name, thing, facts in things])

    def __eq__(self, other):
        return isinstance(other, Shelf) and self.things == other.things

    def thing(self, name):
        """The album or tray that is kept under this name."""
        return self.things[self._place_of(name)][1]

    def facts(self, name):
        """The facts of the album under this name; none of a tray."""
        return self.things[self._place_of(name)][2]

    def _place_of(self, name):
        if not is_name(name) or name not in self.names:
            raise NoName(name)
        return self.names.index(name)


def check_shelf(value, part):
    """Raise BadDesk with this part unless the value is a Shelf."""
    if not isinstance(value, Shelf):
        raise BadDesk(part)


def check_names(shelf, names):
    """Raise NoName for the first of these names under which nothing is kept."""
    for name in names:
        if name not in shelf.names:
            raise NoName(name)
