"""Depths, and whether facts hold together."""

import itertools
import unittest
from collections import Counter

from farseen.albums import Album
from farseen.bodies import Body
from farseen.check_fronts import shows_depths, shows_fronts
from farseen.errors import BadAlbum, BadFact, Impossible, Misfit, NoPicture, NoPin, TooMany
from farseen.facts import Fact
from farseen.forced import clashes, forced_facts, forcing
from farseen.fronts import Against, Depths, Hands, Order, Ranges, depths, fronts
from farseen.pictures import Picture
from farseen.settled import settle
from tests.helpers import HUGE, Case, chance, fraction, no_integers, odd_values
from tests.plain_albums import plain_chart, plain_kind
from tests.plain_fronts import PlainReadings, depths_of_hand, few_pin_albums, seen_facts, some_facts, turned_albums
from tests.test_albums import no_albums
from tests.test_settled import BAD, CUBE, SIDES, TORN

LOOSE, BENT, FIRM = CUBE.picked([0]), CUBE.picked([0, 1]), CUBE
NARROW = Album([Picture([(0, 0), (0, 4), (0, 4), (1, 4)]), Picture([(0, 0), (0, 0), (0, 2), (1, 3)])])
KINDS = {"one": Hands, "stretch": Ranges, "free": Order}


def no_facts():
    """Values that are no lists of facts."""
    fact = Fact(0, 0, 1)
    return [value for value in odd_values() if value not in ([], ())] + [fact, {0: fact}, iter([fact]), [fact, None], (fact, (0, 0, 1)),
                                                                      ["0 0 1"], [[fact]], [fact, True]]


class DepthsTest(Case):

    def test_small(self):
        self.assertEqual([depths(FIRM, number).parts for number in range(3)],
                         [((9, 1), (0, 0, 1)), ((1, 1), (-1, 2, 2)), ((9, 1), (1, 0, 0))])
        self.assertEqual((depths(album=FIRM, picture=0).square, depths(FIRM, 0).row), ((9, 1), (0, 0, 1)))
        unit = Album([Picture([(0, 0), (1, 0), (0, 1), (0, 0)]), Picture([(0, 0), (0, 0), (1, 0), (0, 1)]), Picture([(0, 0), (1, 0), (0, 0), (0, 1)])])
        self.assertEqual([depths(unit, number).row for number in range(3)], [(0, 0, 1), (1, 0, 0), (0, -1, 0)])

    def test_bodies(self):
        # The depths that the turned body has, its hand being 1 or -1.
        found = Counter()
        for album, hand, rows in turned_albums(601, 60):
            if plain_kind(album) != "one":
                continue
            for number, row in enumerate(rows):
                told = depths(album, number)
                ratio, right = depths_of_hand(plain_chart(album), album.pictures[number], 1)
                self.assertEqual((type(told), told.word, bool(told)), (Depths, "depths", True))
                self.assertEqual((fraction(told.square), [0] + list(told.row)), (ratio, right))
                far = [number for number in row if number]
                mine = [number for number in told.row if number]
                self.assertEqual([number > 0 for number in mine], [number * hand > 0 for number in far])
                found[hand] += 1
        self.assertGreater(min(found[1], found[-1]), 10)

    def test_exact(self):
        # Turned by a four of size 1, the depths are integers, and the roots come out.
        body = Body([(0, 0, 0), (1, 2, 2), (2, 1, -4), (0, 3, 6), (1, 1, 0)])
        album = body.album([(1, 0, 0, 0), (0, 1, 0, 0), (1, 1, 0, 0), (1, 0, 1, 0)]).picked([0, 2, 3])
        told = depths(album, 0)
        self.assertEqual(told, Depths((16, 1), (1, -2, 3, 0)))

    def test_errors(self):
        for value in no_albums():
            self.fails(BadAlbum, ["album"], depths, value, None)
        for album in (FIRM, LOOSE, BAD):
            for value in no_integers() + [-1, len(album), HUGE]:
                self.fails(NoPicture, [value], depths, album, value)
        for album in (LOOSE, BENT, LOOSE.joined(LOOSE), BENT.joined(BENT)):
            self.fails(Misfit, ["kind"], depths, album, 0)
        for album in (BAD, TORN, Album(SIDES)):
            with self.assertRaises(Impossible) as caught:
                depths(album, 0)
            self.assertEqual(caught.exception.paper, settle(album))


class FrontsTest(Case):

    def check(self, album, facts, plain=None):
        """What is told is what all readings tell; the word."""
        plain = PlainReadings(album) if plain is None else plain
        told = fronts(album, facts)
        lots = plain.lots_against(facts)
        if lots:
            right = Against(lots[0])
        else:
            right = KINDS[plain.kind](*plain.parts(facts))
        self.assertEqual((told, type(told), bool(told)), (right, type(right), not lots), ([str(fact) for fact in facts], str(album)))
        self.assertEqual(clashes(album, facts), lots)
        return (plain.kind, told.word, max(map(len, lots), default=0))

    def test_small(self):
        self.assertEqual([fronts(FIRM, facts) for facts in ([], (Fact(0, 0, 3),), [Fact(0, 0, 3), Fact(1, 0, 1)], [Fact(1, 1, 0), Fact(0, 1, 2)])],
                         [Hands([-1, 1]), Hands([1]), Against([0, 1]), Against([1])])
        self.assertEqual(fronts(BENT, []), Ranges(((-1, 1), (1, 1)), ((-1, 1), (1, 1))))
        self.assertEqual([fronts(BENT, facts).parts for facts in ([Fact(0, 0, 3)], [Fact(0, 0, 1)], [Fact(0, 0, 1), Fact(1, 0, 3), Fact(0, 0, 3)])],
                         [(((-1, 1), (1, 1)), None), (((-1, 1), (2, 3)), ((2, 3), (1, 1))), (((0, 1), (2, 3)), None)])
        self.assertEqual(fronts(LOOSE, []), Order([0, 1, 2, 3]))
        self.assertEqual(fronts(LOOSE, [Fact(0, 3, 0), Fact(0, 2, 3)]), Order((1, 2, 3, 0)))
        self.assertEqual(fronts(LOOSE, [Fact(0, 1, 2), Fact(0, 3, 1), Fact(0, 2, 3)]), Against((0, 1, 2)))
        self.assertEqual(fronts(NARROW, [Fact(0, 0, 1), Fact(0, 2, 0), Fact(0, 0, 3), Fact(0, 1, 0)]), Against((0, 3)))
        self.assertEqual((fronts(album=BENT, facts=[]).plus, fronts(FIRM, []).hands, fronts(LOOSE, []).pins, Against([1]).numbers),
                         (((-1, 1), (1, 1)), (-1, 1), (0, 1, 2, 3), (1,)))

    def test_equal_depths(self):
        # In the first picture of the cube pins 1 and 2 have one depth, whatever the hand.
        for album in (FIRM, FIRM.joined(FIRM)):
            for fact in (Fact(0, 1, 2), Fact(0, 0, 1), Fact(0, 2, 0), Fact(2, 2, 3)):
                self.assertEqual(fronts(album, [Fact(0, 0, 3), fact]), Against([1]))
                self.assertEqual(clashes(album, [fact, fact]), ((0,), (1,)))
        # Two pins at one place along both rows across of a stretch, apart along the axis alone.
        flat = Album([Picture([(0, 0), (5, 0), (0, 5), (1, 1)]), Picture([(0, 0), (5, 0), (0, 3), (1, 2)])])
        self.assertEqual(plain_kind(flat), "stretch")
        for number in (0, 1):
            self.assertEqual(fronts(flat, [Fact(0, 0, 2), Fact(number, 0, 1)]), Against([1]))

    def test_equal_facts(self):
        fact, turned = Fact(0, 0, 3), Fact(0, 3, 0)
        for album in (LOOSE, BENT, FIRM):
            self.assertTrue(fronts(album, [fact] * 12))
            self.assertEqual(fronts(album, [fact, fact, turned]), Against([0, 2]))
            self.assertEqual(clashes(album, [fact, turned, fact, turned]), ((0, 1), (0, 3), (1, 2), (2, 3)))
            self.assertEqual(self.check(album, [fact] * 3)[1], fronts(album, [fact]).word)

    def test_rings(self):
        seven = Album([Picture([(0, 0), (3, 1), (1, 4), (2, 2), (5, 1), (0, 7), (1, 1)])])
        ring = [Fact(0, pin, (pin + 1) % 7) for pin in range(7)]
        self.assertEqual(fronts(seven, ring), Against(tuple(range(7))))
        for at in range(7):
            self.assertEqual(fronts(seven, ring[:at] + ring[at + 1:]), Order([(at + 1 + k) % 7 for k in range(7)]))
        both = seven.with_picture(seven.pictures[0].mirrored().turned())
        mixed = [fact if fact.near % 2 else Fact(1, fact.far, fact.near) for fact in ring]
        self.assertEqual(fronts(both, mixed), Against(tuple(range(7))))
        self.assertEqual(clashes(both, mixed + [Fact(1, 0, 6)] * 2), ((0, 1, 2, 3, 4, 5, 6), (0, 1, 2, 3, 4, 5, 7), (0, 1, 2, 3, 4, 5, 8)))

    def test_drawn_facts(self):
        dice = chance(611)
        found = Counter()
        for album, _, _ in few_pin_albums(612, 70):
            plain = PlainReadings(album)
            for many in (0, 1, 2, 3, 5, 8):
                found[self.check(album, some_facts(dice, album, many), plain)] += 1
        for kind, word in (("one", "hands"), ("stretch", "ranges"), ("free", "order")):
            self.assertGreater(found[(kind, word, 0)], 10, found)
        for kind, sizes in (("one", (1, 2)), ("stretch", (1, 2, 3)), ("free", (2, 3, 4))):
            for size in sizes:
                self.assertGreater(found[(kind, "against", size)], 0, (kind, size, found))

    def test_turned_bodies(self):
        # Facts that the body has hold together, so do those of its mirror; those of both, and turned ones, do not.
        dice = chance(613)
        found = Counter()
        for album, hand, rows in turned_albums(614, 60):
            facts = seen_facts(album, rows, dice, 12)
            mirror = [fact.turned() for fact in facts]
            told, other = fronts(album, facts), fronts(album, mirror)
            kind = plain_kind(album)
            found[kind] += 1
            self.assertIs(type(told), KINDS[kind])
            self.assertIs(type(other), KINDS[kind])
            if facts:
                self.assertFalse(fronts(album, facts[:6] + mirror[:1]))
            if facts and kind == "one":
                self.assertEqual((told.hands, other.hands), ((hand,), (-hand,)))
            if facts and kind == "stretch":
                self.assertEqual((told.plus, told.minus), (other.minus, other.plus))
        self.assertGreater(min(found["one"], found["stretch"], found["free"]), 5, found)

    def test_eight_pictures(self):
        dice = chance(615)
        body = Body([[dice.randrange(-9, 10) for _ in range(3)] for _ in range(5)])
        fours = [(1, 0, 0, 0), (1, 1, 0, 0), (1, 0, 1, 0), (1, 0, 0, 1), (1, 1, 1, 1), (1, 1, 1, 0), (2, 1, 0, 0), (0, 1, 1, 0)]
        album = body.album(fours)
        for _ in range(10):
            self.check(album, some_facts(dice, album, 4))
        self.assertTrue(fronts(album, seen_facts(album, [body.turned(four).depths() for four in fours], dice, 12)))

    def test_more_pictures(self):
        # What clashes still clashes, what is forced still is.
        dice = chance(616)
        for album, _, rows in few_pin_albums(617, 40):
            less = album.picked(list(range((len(album) + 1) // 2)))
            facts = some_facts(dice, less, 3)
            for lot in clashes(less, facts):
                self.assertTrue(any(set(its) <= set(lot) for its in clashes(album, facts)))
            facts = seen_facts(less, rows, dice, 3)
            self.assertTrue(all(fact in forced_facts(album, facts) for fact in forced_facts(less, facts)))


class ErrorsTest(Case):

    def test_errors(self):
        calls = (fronts, forced_facts, clashes, lambda album, facts: forcing(album, facts, None),
                 lambda album, facts: shows_fronts(album, facts, None))
        for call in calls:
            for value in no_albums():
                self.fails(BadAlbum, ["album"], call, value, None)
            for value in no_facts():
                self.fails(BadFact, ["facts"], call, FIRM, value)
                self.fails(BadFact, ["facts"], call, BAD, value)
            good = [Fact(0, 0, 1), Fact(1, 2, 3), Fact(0, 3, 2)]
            for album in (BENT, TORN.picked([0, 1])):
                for at in range(3):
                    for fact, error, value in ((Fact(2, 4, 5), NoPicture, 2), (Fact(7, 0, 1), NoPicture, 7), (Fact(0, 4, 5), NoPin, 4),
                                               (Fact(1, 0, 6), NoPin, 6), (Fact(1, 6, 0), NoPin, 6)):
                        facts = good[:at] + [fact] + [Fact(3, 6, 5)] * 12
                        self.fails(error, [value], call, album, facts)
                        self.fails(error, [value], call, album, tuple(good[:at] + [fact] + good[at + 1:]))
        for call in calls[:3] + calls[4:]:
            for album in (LOOSE, BENT, FIRM, BAD):
                self.fails(TooMany, ["facts", 12], call, album, [Fact(0, 0, 1)] * 13)
        for call in (fronts, forced_facts, clashes, lambda album, facts: forcing(album, facts, Fact(0, 0, 1))):
            for album in (BAD, TORN, Album(SIDES)):
                for facts in ([], [Fact(0, 0, 1)] * 12):
                    with self.assertRaises(Impossible) as caught:
                        call(album, facts)
                    self.assertEqual(caught.exception.paper, settle(album))

    def test_twelve(self):
        for album in (LOOSE, BENT, FIRM):
            self.assertTrue(fronts(album, [Fact(0, 0, 3)] * 12))
            self.assertEqual(fronts(album, [Fact(0, 0, 3)] * 11 + [Fact(0, 3, 0)]), Against((0, 11)))

    def test_depths_shown(self):
        for call in (depths, lambda album, picture: shows_depths(album, picture, None)):
            self.fails(NoPicture, [9], call, LOOSE, 9)
            self.fails(Misfit, ["kind"], call, LOOSE, 0)


class ShortTimeTest(Case):

    def test_greatest(self):
        dice = chance(618)
        body = Body([[dice.randrange(-10 ** 6, 10 ** 6) for _ in range(3)] for _ in range(7)])
        fours = [(1, 1, 0, 0), (1, 0, 1, 0), (1, 0, 0, 1), (1, 1, 1, 1), (1, -1, 1, 1), (1, 1, 1, 0), (1, 0, 0, 0), (0, 1, 2, 0)]
        firm = body.album(fours)
        rows = [body.turned(four).depths() for four in fours]
        bent = Album([firm.pictures[at % 2].turned() if at % 3 else firm.pictures[at % 2].mirrored() for at in range(8)])
        loose = Album([firm.pictures[0].mirrored() if at % 3 else firm.pictures[0] for at in range(8)])
        seen = {"firm": seen_facts(firm, rows, dice, 12)}
        for album in (firm, bent, loose):
            facts = seen["firm"] if album is firm else [fact for fact in some_facts(dice, album, 40)][:12]
            ring = [Fact(0, at % 7, (at + 1) % 7) for at in range(12)]
            for told in (facts, [fact.turned() for fact in facts], ring, ring[:6] * 2):
                self.assertEqual(len(told), 12)
                answer = self.takes_short(fronts, album, told)
                self.assertTrue(self.takes_short(shows_fronts, album, told, answer))
                self.assertEqual(bool(self.takes_short(clashes, album, told)), not answer)
                if answer:
                    self.takes_short(forced_facts, album, told)
                    for fact in (Fact(0, 0, 6), Fact(7, 1, 2), told[-1]):
                        self.takes_short(forcing, album, told, fact)


if __name__ == "__main__":
    unittest.main()
