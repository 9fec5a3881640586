"""Shelves: what can be kept, and how it is told."""

import unittest

from farseen.albums import Album
from farseen.errors import BadDesk, NoName, Twice
from farseen.facts import Fact
from farseen.pictures import Picture
from farseen.shelves import Shelf
from farseen.trays import Tray
from tests.helpers import Case, odd_values
from tests.test_together import BOX, FRONT

TRAY = Tray([[0, 2, 1], [0, 1, 2], [0, 3, 3]])
FACT = Fact(0, 0, 3)
THINGS = [("box", BOX, [FACT, Fact(2, 3, 1)]), ("t", TRAY, []), ("a1", Album([FRONT]), ())]


def no_things():
    """Values that are no things that can be kept."""
    album = Album([FRONT])
    five = Album([Picture(FRONT.places + ((1, 1),))])
    return [value for value in odd_values()] + [
        ("a", BOX), ("a", BOX, [], []), ("A", BOX, []), ("", BOX, []), ("1", BOX, []), ("abcdefghijklm", BOX, []), (None, BOX, []), (b"a", BOX, []),
        ("a", FRONT, []), ("a", None, []), ("a", BOX.pictures, []), ("a", "0 2 1", []), ("a", BOX, None), ("a", BOX, FACT), ("a", BOX, [None]),
        ("a", BOX, [FACT, "0 0 3"]), ("a", BOX, [FACT] * 13), ("a", album, [Fact(1, 0, 3)]), ("a", BOX, [Fact(0, 4, 0)]), ("a", BOX, [Fact(0, 0, 4)]),
        ("a", five, [Fact(0, 0, 5)]), ("a", TRAY, [FACT]), ("a", TRAY, None), {"a": BOX}, "abc", (["a"], BOX, [])]


class ShelfTest(Case):

    def test_attributes(self):
        shelf = Shelf(THINGS)
        self.assertEqual(shelf.names, ("box", "t", "a1"))
        self.assertEqual(shelf.things, (("box", BOX, (FACT, Fact(2, 3, 1))), ("t", TRAY, ()), ("a1", Album([FRONT]), ())))
        self.assertEqual((shelf.thing("box"), shelf.thing("t"), shelf.thing(name="a1")), (BOX, TRAY, Album([FRONT])))
        self.assertEqual((shelf.facts("box"), shelf.facts("t"), shelf.facts(name="a1")), ((FACT, Fact(2, 3, 1)), (), ()))
        self.assertEqual((Shelf().things, Shelf().names, Shelf(things=()).names, Shelf([]).things), ((), (), (), ()))
        self.assertEqual(Shelf([("a", BOX, [FACT] * 12)]).facts("a"), (FACT,) * 12)
        self.assertEqual(Shelf(tuple(list(thing) for thing in THINGS)), shelf)

    def test_equal(self):
        shelf = Shelf(THINGS)
        self.assertTrue(shelf == Shelf(tuple(THINGS)))
        self.assertIs(shelf != Shelf(THINGS), False)
        for things in (THINGS[:2], THINGS[::-1], [("b", BOX, THINGS[0][2])] + THINGS[1:], [("box", BOX, [FACT])] + THINGS[1:],
                       [("box", BOX, THINGS[0][2][::-1])] + THINGS[1:], [("box", BOX.picked([0, 2, 1]), THINGS[0][2])] + THINGS[1:], ()):
            self.assertIs(shelf == Shelf(things), False)
        for value in odd_values() + [shelf.things, tuple(THINGS), THINGS]:
            self.assertIs(shelf == value, False)

    def test_missing(self):
        shelf = Shelf(THINGS)
        for value in odd_values() + ["b", "Box", "box ", "t1", "tt", ["t"], ("t",), {"t"}, b"t"]:
            self.fails(NoName, [value], shelf.thing, value)
            self.fails(NoName, [value], shelf.facts, value)
        self.fails(NoName, ["t"], Shelf().thing, "t")
        self.fails(NoName, ["t"], Shelf().facts, "t")

    def test_errors(self):
        lists = [value for value in odd_values() if value not in ([], ())] + [THINGS[0], {"a": THINGS[0]}, iter(THINGS), "ab", BOX]
        self.fails_for(lists, BadDesk, ["things"], Shelf)
        self.is_no_list_of(THINGS, no_things(), BadDesk, ["things"], Shelf)
        for things, name in ((THINGS + [("t", BOX, [])], "t"), ([THINGS[0]] * 3, "box"), ([THINGS[1], THINGS[0], THINGS[0], THINGS[1]], "box")):
            self.fails(Twice, [name], Shelf, things)
            self.fails(BadDesk, ["things"], Shelf, things + [None])

    def test_changed_afterwards(self):
        facts = [FACT]
        thing = ["box", BOX, facts]
        things = [thing]
        shelf = Shelf(things)
        facts.append(None)
        thing[0] = "x"
        things.append(None)
        self.assertEqual(shelf.things, (("box", BOX, (FACT,)),))
        self.assertEqual(shelf.names, ("box",))


if __name__ == "__main__":
    unittest.main()
