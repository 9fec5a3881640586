"""The answers to ask lines."""

import unittest
from collections import Counter

from farseen.albums import Album
from farseen.bodies import Body
from farseen.desk_asks import answer_of
from farseen.desk_deeds import changed
from farseen.desk_lines import ASKS, DEEDS
from farseen.errors import BadDesk, BadText, Impossible, Misfit, NoName, TooMany
from farseen.facts import Fact
from farseen.pictures import Picture
from farseen.settled import settle
from farseen.shelves import Shelf
from farseen.trays import Tray
from tests.helpers import Case, chance, odd_values
from tests.plain_desk import ALBUMS_ONLY, TRAYS_ONLY, Lines, PlainDesk
from tests.test_desk_deeds import FIVE, told_by
from tests.test_desk_lines import LINES
from tests.test_settled import BAD, SIDES, TORN
from tests.test_shelves import THINGS, TRAY
from tests.test_stretches import LINE
from tests.test_together import BOX, FRONT
from tests.test_uprights import TALL

SHELF = Shelf([("box", BOX, []), ("t", TRAY, []), ("two", BOX.picked([0, 1]), [Fact(0, 0, 3)]), ("bad", BAD, [Fact(0, 0, 1), Fact(2, 3, 1)]), ("torn", TORN, []),
               ("tall", TALL, []), ("none", Tray([[0, 1, 2], [0, 2, 4]]), []), ("free", Album([FRONT]), []), ("six", Tray([[0, 2, 1], [0, 1, 2], [0, -1, 1]]), []),
               ("sides", Album(SIDES), []), ("kin", BOX.joined(BOX), [Fact(0, 0, 3), Fact(3, 3, 0)])])


class AsksTest(Case):

    def test_small(self):
        self.assertEqual(answer_of(Shelf(), "names"), "-")
        for line, right in (
                ("names", "box t two bad torn tall none free six sides kin"), ("show box", "album " + str(BOX)), ("show t", "tray 0 2 1 / 0 1 2 / 0 3 3"), ("facts box", "-"),
                ("facts two", "0 0 3"), ("facts bad", "0 0 1 / 2 3 1"), ("kind box", "one"), ("kind two", "stretch"), ("kind free", "free"), ("kind bad", "nocorner"),
                ("kind torn", "thin"), ("kind sides", "misfits"), ("kind t", "trayone"), ("kind none", "trayunlike"), ("chart box", "1 0 0 / 0 4 0 / 0 0 9 : 1"), ("chart two", "-"),
                ("chart bad", "-"), ("chart t", "28 26 / 26 28 : 3"), ("chart none", "-"), ("groups box", "0 / 1 / 2"), ("groups kin", "0 3 / 1 4 / 2 5"), ("groups t", "0 / 1 / 2"),
                ("groups free", "0"), ("quarrels box", "-"), ("quarrels torn", "3 / 0 1 / 1 2"), ("quarrels t", "-"), ("quarrels none", "0 1"), ("struck torn", "1 3"), ("struck box", "-"),
                ("settling box", "0 1 2"), ("settling free", "0"), ("steady t", "unsteady"), ("steady six", "steady"), ("steady none", "unsteady"),
                ("is box 1 0 1 0 1 just 1", "sure"), ("is box 1 0 1 0 1 above 1", "never"), ("is free 1 0 1 0 1 above 3", "open"), ("fits two 0 0 / 0 1 / 0 0 / 3 0", "fits"),
                ("fits two 0 0 / 1 0 / 0 3 / 0 0", "unalike"), ("fronts box", "hands"), ("fronts two", "ranges"), ("fronts free", "order"), ("fronts kin", "against"),
                ("sizes box", "sizedone"), ("sizes two", "sizedstretch"), ("sizes torn", "thin"), ("same box box", "same"), ("same box two", "maybe"), ("same two tall", "parted"),
                ("stands tall", "standing"), ("stands box", "leaning"), ("stands free", "noaxis")):
            self.assertEqual(answer_of(SHELF, line), right, line)
        self.assertEqual(answer_of(shelf=SHELF, line="names"), "box t two bad torn tall none free six sides kin")
        later, _ = changed(SHELF, "strike box 2")
        self.assertEqual([answer_of(later, line) for line in ("kind box", "chart box", "same box box")], ["stretch", "-", "maybe"])

    def test_errors_of_functions(self):
        for line, denial in (("settling bad", settle(BAD)), ("is torn 1 0 1 0 1 just 1", settle(TORN)), (f"fits bad {FRONT}", settle(BAD)), ("fronts bad", settle(BAD)),
                             ("same box bad", settle(BAD)), ("same torn bad", settle(TORN)), ("stands torn", settle(TORN))):
            with self.assertRaises(Impossible) as caught:
                answer_of(SHELF, line)
            self.assertEqual(caught.exception.paper, denial)
        self.fails(Misfit, ["pins"], answer_of, SHELF, "is bad 1 0 4 0 1 just 1")
        self.fails(Misfit, ["pins"], answer_of, SHELF, f"fits bad {FIVE}")
        eight = Shelf([("a", Album([LINE] * 8), []), ("b", Album([FIVE] * 2), [])])
        self.fails(TooMany, ["pictures", 8], answer_of, eight, f"fits a {FRONT}")
        self.fails(TooMany, ["pictures", 8], answer_of, eight, "same a a")
        self.fails(Misfit, ["pins"], answer_of, eight, "same a b")

    def test_names(self):
        asks = [line for line in LINES if line.split(" ")[0] in ASKS and line != "names"]
        self.assertEqual(len({line.split(" ")[0] for line in asks}), 15)
        for line in asks:
            head, name, *rest = line.split(" ")
            if head == "same":
                for names, error, value in (("x y", NoName, "x"), ("box y", NoName, "y"), ("t y", NoName, "y"), ("x t", NoName, "x"), ("t box", Misfit, "kinds"),
                                            ("bad t", Misfit, "kinds"), ("t t", Misfit, "kinds")):
                    self.fails(error, [value], answer_of, SHELF, "same " + names)
                continue
            self.fails(NoName, ["x"], answer_of, SHELF, " ".join([head, "x"] + rest))
            if head in ALBUMS_ONLY:
                self.fails(Misfit, ["kinds"], answer_of, SHELF, " ".join([head, "t"] + rest))
                self.fails(Misfit, ["kinds"], answer_of, SHELF, " ".join([head, "none"] + rest))
            elif head in TRAYS_ONLY:
                self.fails(Misfit, ["kinds"], answer_of, SHELF, " ".join([head, "box"] + rest))
                self.fails(Misfit, ["kinds"], answer_of, SHELF, " ".join([head, "bad"] + rest))
            else:
                for name in ("t", "none", "box", "bad"):
                    self.assertIsInstance(answer_of(SHELF, " ".join([head, name])), str)

    def test_shelf_and_lines(self):
        for value in odd_values() + [THINGS, ()]:
            self.fails(BadDesk, ["shelf"], answer_of, value, None)
            self.fails(BadDesk, ["shelf"], answer_of, value, "drop a")
        for value in odd_values():
            self.fails(BadText, [0, 0], answer_of, SHELF, value)
        for word in DEEDS:
            for rest in ("", " ", " box", " none", " box 0", " t x", " box 0 0 / 1 0"):
                self.fails(BadText, [0, 0], answer_of, SHELF, word + rest)
        for line, item in (("names x", 1), ("show", 1), ("show x y", 2), ("is x 1", 3), ("same box", 2), ("fits x 0 0", 4), ("kind Box", 1), ("", 0), ("what", 0)):
            self.fails(BadText, [0, item], answer_of, SHELF, line)

    def test_drawn_lines(self):
        found = Counter()
        for seed in range(12):
            lines, plain, shelf = Lines(950 + seed), PlainDesk(), Shelf()
            for _ in range(200):
                line = lines.deed()
                kept = plain.copy()
                if isinstance(told_by(plain.deed, line), tuple):
                    plain = kept
                else:
                    shelf, _ = changed(shelf, line)
                line, before = lines.ask(), shelf.things
                right = told_by(plain.ask, line)
                self.assertEqual(told_by(answer_of, shelf, line), right, line)
                self.assertEqual(shelf.things, before)
                found[(line.split(" ")[0], isinstance(right, str))] += 1
        self.assertTrue(all(found[(word, True)] > 3 for word in ASKS), found)

    def test_greatest(self):
        picture = Picture([(999999937, 1), (3, 999999929), (-123456789, 4), (77, 0), (987654321, 5), (6, 7), (123123123, 8)])
        shelf = Shelf([("a", Album([picture, picture.mirrored(), picture.turned()] * 2), [Fact(5, 0, 1)] * 12), ("t", Tray([[999999937 * at % 1000003 for at in range(7)]] * 8), [])])
        self.ask_all(shelf, picture)
        dice = chance(899)
        body = Body([[dice.randrange(-10 ** 6, 10 ** 6) for _ in range(3)] for _ in range(7)])
        album = body.album([(1, 1, 0, 0), (1, 0, 1, 0), (1, 0, 0, 1), (1, 1, 1, 1), (1, -1, 1, 1), (1, 1, 1, 0), (1, 0, 0, 0), (0, 1, 2, 0)])
        shelf = Shelf([("a", album, [Fact(at % 8, at % 7, (at + 3) % 7) for at in range(12)]), ("t", Tray([[dice.randrange(10 ** 9) for _ in range(7)] for _ in range(8)]), [])])
        self.ask_all(shelf, album.pictures[0])
        mixed = Album([Picture([(dice.randrange(10 ** 9), dice.randrange(10 ** 9)) for _ in range(7)]) for _ in range(8)])
        self.ask_all(Shelf([("a", mixed, []), ("t", Tray([[0] * 7]), [])]), picture)

    def ask_all(self, shelf, picture):
        for head in ASKS:
            name = "t" if head in TRAYS_ONLY else "a"
            asked = {"same": "same a a", "is": "is a 1 0 6 0 1 just 0", "fits": f"fits a {picture}", "names": "names"}.get(head, f"{head} {name}")
            self.takes_short(told_by, answer_of, shelf, asked)


if __name__ == "__main__":
    unittest.main()
