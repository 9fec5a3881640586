"""What deed lines do to a shelf."""

import copy
import itertools
import unittest
from collections import Counter

from farseen.albums import Album
from farseen.desk_deeds import changed
from farseen.desk_lines import ASKS, DEEDS
from farseen.errors import (BadAlbum, BadDesk, BadFact, BadNumber, BadText, BadTray, Misfit, NoFact, NoName, NoPicture, NoPin, SeenError, TooMany,
                            Twice)
from farseen.facts import Fact
from farseen.pictures import Picture
from farseen.shelves import Shelf
from farseen.trays import Tray
from farseen.uprights import upright
from tests.helpers import LIMIT, Case, odd_values
from tests.plain_desk import Lines, PlainDesk
from tests.test_desk_lines import LINES
from tests.test_shelves import FACT, THINGS, TRAY
from tests.test_together import BOX, FRONT, SIDE

SHELF = Shelf(THINGS)
FOUR = Tray([[0, 2, 1, 4], [0, 1, 2, 0]])
FIVE = Picture(FRONT.places + ((1, 1),))


def told_by(call, *args):
    """What is returned, or the class and the fields of what is raised."""
    try:
        return call(*args)
    except SeenError as error:
        return type(error), tuple(vars(error).values())


class DeedsTest(Case):

    def does(self, shelf, line, things, answer):
        """The line makes just these things of the shelf, which stays as it was."""
        before = shelf.things
        told = changed(shelf, line)
        self.assertEqual(told, (Shelf(things), answer), line)
        self.assertIsInstance(told, tuple)
        self.assertEqual(shelf.things, before)

    def test_new(self):
        self.does(Shelf(), f"album a {FRONT}", [("a", Album([FRONT]), [])], "4")
        self.does(SHELF, f"album b {FIVE}", THINGS + [("b", Album([FIVE]), [])], "5")
        self.does(SHELF, "tray b 5 6 7", THINGS + [("b", Tray([[5, 6, 7]]), [])], "3")
        self.assertEqual(changed(shelf=SHELF, line="drop t")[1], "2")

    def test_more(self):
        self.does(SHELF, f"take box {SIDE}", [("box", BOX.with_picture(SIDE), THINGS[0][2])] + THINGS[1:], "3")
        self.does(SHELF, f"take a1 {SIDE}", THINGS[:2] + [("a1", Album([FRONT, SIDE]), [])], "1")
        self.does(SHELF, "row t 5 5 6", [THINGS[0], ("t", TRAY.with_row([5, 5, 6]), []), THINGS[2]], "3")

    def test_strike(self):
        fact = Fact(1, 3, 1)
        self.does(SHELF, "strike box 1", [("box", BOX.picked([0, 2]), [FACT, fact])] + THINGS[1:], "2")
        self.does(SHELF, "strike box 0", [("box", BOX.picked([1, 2]), [fact])] + THINGS[1:], "2")
        self.does(SHELF, "strike box 2 0", [("box", BOX.picked([1]), [])] + THINGS[1:], "1")
        self.does(SHELF, "strike t 2 1", [THINGS[0], ("t", TRAY.picked([0]), []), THINGS[2]], "1")
        facts = [Fact(picture, 0, 1 + at % 3) for at, picture in enumerate((2, 0, 1, 2, 1, 0, 2))]
        shelf = Shelf([("a", BOX, facts)])
        self.does(shelf, "strike a 1", [("a", BOX.picked([0, 2]), [Fact(fact.picture // 2, fact.near, fact.far) for fact in facts if fact.picture != 1])], "2")
        self.fails(BadAlbum, ["pictures"], changed, SHELF, "strike box 0 1 2")
        self.fails(BadAlbum, ["pictures"], changed, SHELF, "strike box 2 0 1")
        self.fails(BadAlbum, ["pictures"], changed, SHELF, "strike a1 0")
        self.fails(BadTray, ["rows"], changed, SHELF, "strike t 0 1 2")
        for name in ("box", "t"):
            self.fails(NoPicture, [3], changed, SHELF, f"strike {name} 0 0 3 4")
            self.fails(NoPicture, [10 ** 59], changed, SHELF, f"strike {name} {10 ** 59}")
            self.fails(Twice, [1], changed, SHELF, f"strike {name} 0 1 2 1 0")
            self.fails(Twice, [0], changed, SHELF, f"strike {name} 0 0 1 2")

    def test_front(self):
        self.does(SHELF, "front box 2 0 1", [("box", BOX, THINGS[0][2] + [Fact(2, 0, 1)])] + THINGS[1:], "2")
        self.does(SHELF, "front a1 0 3 1", THINGS[:2] + [("a1", Album([FRONT]), [Fact(0, 3, 1)])], "0")
        self.does(SHELF, "front box 0 0 3", [("box", BOX, THINGS[0][2] + [FACT])] + THINGS[1:], "2")
        for line, error, value in (("front box 3 4 4", NoPicture, 3), ("front box 9 0 0", NoPicture, 9), ("front box 2 4 5", NoPin, 4), ("front box 2 0 5", NoPin, 5),
                                   ("front box 0 4 4", NoPin, 4), ("front box 0 3 3", BadFact, "pins"), ("front a1 1 0 0", NoPicture, 1),
                                   (f"front box {10 ** 59} 0 0", NoPicture, 10 ** 59)):
            self.fails(error, [value], changed, SHELF, line)
        full = Shelf([("a", BOX, [FACT] * 12)])
        self.fails(TooMany, ["facts", 12], changed, full, "front a 0 0 1")
        self.fails(BadFact, ["pins"], changed, full, "front a 0 1 1")
        self.fails(NoPin, [7], changed, full, "front a 0 7 7")
        self.does(Shelf([("a", BOX, [FACT] * 11)]), "front a 0 0 1", [("a", BOX, [FACT] * 11 + [Fact(0, 0, 1)])], "11")

    def test_unsay(self):
        self.does(SHELF, "unsay box 0", [("box", BOX, [Fact(2, 3, 1)])] + THINGS[1:], "1")
        self.does(SHELF, "unsay box 1 0", [("box", BOX, [])] + THINGS[1:], "0")
        self.fails(NoFact, [2], changed, SHELF, "unsay box 0 0 2 3")
        self.fails(NoFact, [0], changed, SHELF, "unsay a1 0")
        self.fails(Twice, [1], changed, SHELF, "unsay box 1 1")

    def test_join(self):
        facts = THINGS[0][2]
        self.does(SHELF, "join b box a1", THINGS + [("b", Album(BOX.pictures + (FRONT,)), facts)], "4")
        self.does(SHELF, "join b a1 box", THINGS + [("b", Album((FRONT,) + BOX.pictures), [Fact(fact.picture + 1, fact.near, fact.far) for fact in facts])], "4")
        self.does(SHELF, "join b box box", THINGS + [("b", Album(BOX.pictures * 2), facts + [Fact(fact.picture + 3, fact.near, fact.far) for fact in facts])], "6")
        shelf = Shelf([("a", Album([FRONT] * 5), [Fact(4, 0, 3)] * 7), ("b", Album([FRONT] * 4), [FACT] * 5), ("c", Album([FRONT] * 3), [FACT] * 6), ("d", Album([FIVE] * 8), [])])
        self.does(shelf, "join e c c", list(shelf.things) + [("e", Album([FRONT] * 6), [FACT] * 6 + [Fact(3, 0, 3)] * 6)], "6")
        self.fails(TooMany, ["pictures", 8], changed, shelf, "join e a b")
        self.fails(TooMany, ["facts", 12], changed, shelf, "join e a c")
        self.fails(Misfit, ["pins"], changed, shelf, "join e a d")
        self.fails(TooMany, ["pictures", 8], changed, shelf, "join e d d")

    def test_upright(self):
        shelf = Shelf([("t", FOUR, []), ("three", TRAY, [])])
        self.does(shelf, "upright a t 0 -1 5 1000000000", list(shelf.things) + [("a", upright(FOUR, [0, -1, 5, LIMIT]), [])], "2")
        for along in ("0", "0 1 2", "0 1 2 3 4"):
            self.fails(Misfit, ["pins"], changed, shelf, "upright a t " + along)
        self.fails(Misfit, ["pins"], changed, shelf, "upright a three 0 0 1")
        self.fails(BadNumber, ["along"], changed, shelf, "upright a t 0 0 0 1000000001")
        self.fails(BadNumber, ["along"], changed, shelf, "upright a three 0 -1000000001")

    def test_drop(self):
        for at, name in enumerate(("box", "t", "a1")):
            self.does(SHELF, "drop " + name, THINGS[:at] + THINGS[at + 1:], "2")
        self.does(Shelf(THINGS[:1]), "drop box", [], "0")

    def test_of_classes(self):
        eight = Shelf([("a", Album([FRONT] * 8), []), ("t", Tray([[0, 1, 2]] * 8), [])])
        self.fails(TooMany, ["pictures", 8], changed, eight, f"take a {SIDE}")
        self.fails(Misfit, ["pins"], changed, eight, f"take a {FIVE}")
        self.fails(TooMany, ["rows", 8], changed, eight, "row t 0 0 0")
        self.fails(Misfit, ["pins"], changed, eight, "row t 0 0 0 0")


class ErrorsTest(Case):

    def test_names(self):
        # Which of all comes first: the text, then the names, then the kinds, then a name that is kept, then the rest.
        deeds = [line for line in LINES if line.split(" ")[0] in DEEDS]
        self.assertEqual(len({line.split(" ")[0] for line in deeds}), 10)
        kept = {"take": "t", "row": "box", "front": "t", "unsay": "t"}
        for line in deeds:
            head, name, *rest = line.split(" ")
            if head in ("album", "tray"):
                self.fails(Twice, ["box"], changed, SHELF, " ".join([head, "box"] + rest))
                self.fails(Twice, ["t"], changed, SHELF, " ".join([head, "t"] + rest))
                continue
            if head in ("join", "upright"):
                continue
            self.fails(NoName, ["none"], changed, SHELF, " ".join([head, "none"] + rest))
            if head in kept:
                self.fails(Misfit, ["kinds"], changed, SHELF, " ".join([head, kept[head]] + rest))
        for line, error, value in (
                ("join box none other", NoName, "none"), ("join box box other", NoName, "other"), ("join box t other", NoName, "other"), ("join other none box", NoName, "none"),
                ("join box t a1", Misfit, "kinds"), ("join box a1 t", Misfit, "kinds"), ("join new t t", Misfit, "kinds"), ("join box a1 box", Twice, "box"), ("join t a1 a1", Twice, "t"),
                ("upright box none 0", NoName, "none"), ("upright box a1 0", Misfit, "kinds"), ("upright box t 0", Twice, "box"), ("upright new box 0", Misfit, "kinds"),
                ("strike none 0 0", NoName, "none"), ("unsay t 5 5", Misfit, "kinds"), ("front t 9 9 9", Misfit, "kinds"), ("drop none", NoName, "none"),
                (f"take t {FIVE}", Misfit, "kinds"), ("row a1 0 0 0", Misfit, "kinds"), ("join none none none", NoName, "none")):
            self.fails(error, [value], changed, SHELF, line)

    def test_shelf(self):
        for value in odd_values() + [THINGS, ()]:
            self.fails(BadDesk, ["shelf"], changed, value, None)
            self.fails(BadDesk, ["shelf"], changed, value, "names")

    def test_lines(self):
        for value in odd_values():
            self.fails(BadText, [0, 0], changed, SHELF, value)
        for word in ASKS:
            for rest in ("", " ", " box", " none", " box box", " t x", " box 0 0 / 1 0"):
                self.fails(BadText, [0, 0], changed, SHELF, word + rest)
        for line, item in (("strike box", 2), ("strike box x", 2), ("strike none x", 2), ("album box 0 0", 4), ("drop", 1), ("drop box box", 2), ("", 0), ("what", 0),
                           ("join box none", 3), ("upright box none x", 3), ("row box 0 0 0 / 1", 5), ("front none 0 0", 4), ("unsay none -1", 2)):
            self.fails(BadText, [0, item], changed, SHELF, line)


class PlainTest(Case):

    def test_drawn_lines(self):
        # Shelves kept as plain lists behind drawn lines, also those that are refused.
        found = Counter()
        for seed in range(12):
            lines, plain, shelf = Lines(900 + seed), PlainDesk(), Shelf()
            for _ in range(300):
                line = lines.deed()
                before, kept = copy.copy(shelf.things), plain.copy()
                right = told_by(plain.deed, line)
                told = told_by(changed, shelf, line)
                if isinstance(right, tuple):
                    self.assertEqual(told, right, line)
                    plain = kept
                else:
                    self.assertEqual(told[1], right, line)
                    self.assertEqual(told[0], Shelf(plain.shelf_things()), line)
                    self.assertEqual(told[0].names, tuple(plain.names))
                self.assertEqual(shelf.things, before)
                if not isinstance(right, tuple):
                    shelf = told[0]
                found[(line.split(" ")[0], right[0].__name__ if isinstance(right, tuple) else "done")] += 1
        self.assertTrue(all(found[(word, "done")] > 3 for word in DEEDS), found)
        for key in (("take", "NoName"), ("take", "Misfit"), ("strike", "NoPicture"), ("strike", "Twice"), ("strike", "BadAlbum"), ("front", "BadFact"), ("front", "NoPin"),
                    ("unsay", "NoFact"), ("join", "Twice"), ("join", "TooMany"), ("upright", "Misfit"), ("row", "Misfit"), ("album", "Twice")):
            self.assertGreater(found[key], 0, (key, found))

    def test_strike_numbers_in_any_order(self):
        for numbers in itertools.permutations(range(3), 2):
            later, answer = changed(SHELF, "strike box " + " ".join(map(str, numbers)))
            self.assertEqual((later, answer), changed(SHELF, "strike box " + " ".join(map(str, sorted(numbers)))))


if __name__ == "__main__":
    unittest.main()
