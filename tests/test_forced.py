"""What facts force, and which of them clash."""

import itertools
import unittest
from collections import Counter

from farseen.albums import Album
from farseen.errors import BadAlbum, BadFact, Impossible, NoPicture, NoPin, TooMany
from farseen.facts import Fact
from farseen.forced import clashes, forced_facts, forcing
from farseen.fronts import Against, fronts
from farseen.pictures import Picture
from farseen.settled import settle
from tests.helpers import Case, chance, odd_values
from tests.plain_fronts import PlainReadings, all_facts, few_pin_albums, seen_facts, some_facts, turned_albums
from tests.test_albums import no_albums
from tests.test_fronts import BENT, FIRM, LOOSE, NARROW
from tests.test_settled import BAD


class ForcedTest(Case):

    def test_small(self):
        told = [Fact(0, 0, 1), Fact(0, 0, 3)]
        self.assertEqual([str(fact) for fact in forced_facts(BENT, told)],
                         ["0 0 1", "0 0 3", "0 1 3", "0 2 0", "0 2 1", "0 2 3", "1 0 2", "1 1 0", "1 1 2", "1 1 3", "1 3 2"])
        self.assertEqual([forcing(BENT, told, fact) for fact in (Fact(1, 1, 3), Fact(1, 3, 2), Fact(1, 0, 3))], [(1,), (0,), None])
        self.assertEqual(clashes(NARROW, [Fact(0, 0, 1), Fact(0, 2, 0), Fact(0, 0, 3), Fact(0, 1, 0)]), ((0, 3), (0, 1, 2)))
        self.assertEqual(clashes(album=BENT, facts=()), ())
        self.assertEqual(forcing(album=LOOSE, facts=[Fact(0, 1, 2)], fact=Fact(0, 1, 2)), (0,))
        self.assertIs(type(forced_facts(BENT, tuple(told))), tuple)
        self.assertIsInstance(forced_facts(BENT, told)[0], Fact)

    def test_no_facts_force_nothing(self):
        for album, _, _ in turned_albums(621, 20):
            self.assertEqual(forced_facts(album, []), ())
            self.assertEqual(clashes(album, ()), ())
            self.assertIsNone(forcing(album, [], Fact(0, 0, 1)))

    def check(self, album, facts, plain):
        everything = all_facts(album)
        right = tuple(fact for fact in everything if plain.force(facts, fact))
        self.assertEqual(forced_facts(album, facts), right, ([str(fact) for fact in facts], str(album)))
        for fact in facts:
            self.assertIn(fact, right)
        longest = 0
        for fact in everything:
            lot = forcing(album, facts, fact)
            self.assertEqual(lot, self.first_lot(facts, fact, plain))
            longest = max(longest, len(lot or ()))
        return longest

    def first_lot(self, facts, fact, plain):
        for size in range(1, len(facts) + 1):
            for lot in itertools.combinations(range(len(facts)), size):
                if plain.force([facts[number] for number in lot], fact):
                    return lot
        return None

    def test_drawn_facts(self):
        dice = chance(622)
        found = Counter()
        for album, _, rows in few_pin_albums(623, 30):
            plain = PlainReadings(album)
            for many in (1, 2, 3):
                facts = seen_facts(album, rows, dice, many)
                self.assertTrue(fronts(album, facts))
                found[(plain.kind, self.check(album, facts, plain))] += 1
                facts = some_facts(dice, album, many)
                if plain.keys_with(facts):
                    found[(plain.kind, self.check(album, facts, plain))] += 1
                else:
                    self.refuses(album, facts)
                    found["refused"] += 1
        self.assertTrue(all(found[key] > 0 for key in ("refused", ("one", 1), ("stretch", 1), ("stretch", 2), ("free", 1), ("free", 2))), found)

    def test_small_stretches(self):
        # Each fact and each two by themselves, where the numbers are 0 and 1; also of pins that are apart along the axis alone.
        unit = Album([Picture([(0, 0), (1, 0), (0, 1), (0, 0)]), Picture([(0, 0), (0, 0), (1, 0), (0, 1)])])
        flat = Album([Picture([(0, 0), (5, 0), (0, 5), (1, 1)]), Picture([(0, 0), (5, 0), (0, 3), (1, 2)])])
        found = Counter()
        for album in (unit, Album([unit.pictures[0], unit.pictures[1].mirrored()]), flat, NARROW):
            plain = PlainReadings(album)
            self.assertEqual(plain.kind, "stretch")
            for two in itertools.combinations_with_replacement(all_facts(album)[::2], 2):
                if plain.keys_with(two):
                    right = tuple(fact for fact in all_facts(album) if plain.force(two, fact))
                    self.assertEqual(forced_facts(album, two), right)
                    found[len(right)] += 1
                else:
                    self.refuses(album, two)
        self.assertGreater(len(found), 3)
        self.assertNotIn(Fact(0, 0, 1), forced_facts(flat, [Fact(0, 0, 2)]))

    def refuses(self, album, facts):
        for call, args in ((forced_facts, ()), (forcing, (Fact(0, 1, 0),)), (forcing, (facts[0],))):
            with self.assertRaises(Impossible) as caught:
                call(album, facts, *args)
            self.assertEqual(caught.exception.paper, fronts(album, facts))
            self.assertIs(type(caught.exception.paper), Against)

    def test_chains(self):
        seven = Album([Picture([(0, 0), (3, 1), (1, 4), (2, 2), (5, 1), (0, 7), (1, 1)])])
        chain = [Fact(0, pin, pin + 1) for pin in (3, 1, 0, 5, 2, 4)]
        told = forced_facts(seven, chain)
        self.assertEqual([(fact.near, fact.far) for fact in told], list(itertools.combinations(range(7), 2)))
        self.assertEqual(forcing(seven, chain, Fact(0, 0, 6)), (0, 1, 2, 3, 4, 5))
        self.assertEqual(forcing(seven, chain, Fact(0, 1, 4)), (0, 1, 4))
        self.assertIsNone(forcing(seven, chain, Fact(0, 6, 0)))
        self.assertEqual(forcing(seven, chain + [Fact(0, 0, 6)], Fact(0, 0, 6)), (6,))
        self.assertEqual(forcing(seven, [Fact(0, 0, 1)] * 3, Fact(0, 0, 1)), (0,))
        both = seven.with_picture(seven.pictures[0].mirrored())
        self.assertEqual(forcing(both, [Fact(1, 1, 0), Fact(0, 1, 2)], Fact(1, 2, 0)), (0, 1))
        self.assertEqual(forced_facts(both, [Fact(1, 1, 0)]), (Fact(0, 0, 1), Fact(1, 1, 0)))

    def test_kind_one_forces_all_of_a_hand(self):
        dice = chance(624)
        for album, _, rows in turned_albums(625, 30):
            if settle(album).word != "one":
                continue
            facts = seen_facts(album, rows, dice, 5)
            deep = [[0] + list(row) for row in rows]
            right = tuple(fact for fact in all_facts(album) if deep[fact.picture][fact.near] < deep[fact.picture][fact.far])
            self.assertEqual(forced_facts(album, facts), right if facts else ())

    def test_errors(self):
        facts = [value for value in odd_values()] + [(0, 0, 1), "0 0 1"]
        good = [Fact(0, 0, 1)]
        for album in (LOOSE, BENT, FIRM, BAD):
            for told in (good, [], good * 13):
                self.fails_for(facts, BadFact, ["fact"], lambda value: forcing(album, told, value))
                self.fails(NoPicture, [7], forcing, album, told, Fact(7, 6, 5))
                self.fails(NoPin, [6], forcing, album, told, Fact(0, 6, 5))
                self.fails(NoPin, [5], forcing, album, told, Fact(0, 1, 5))
            self.fails(NoPin, [4], forcing, album, [Fact(0, 4, 5)], None)
            self.fails(TooMany, ["facts", 12], forcing, album, good * 13, Fact(0, 1, 0))
        self.fails_for(no_albums(), BadAlbum, ["album"], lambda value: forcing(value, None, None))
        self.fails_for(odd_values()[:9], BadFact, ["facts"], lambda value: forcing(FIRM, value, None))
        # The clash comes behind all, also for a fact that would be forced.
        for album in (LOOSE, BENT, FIRM):
            self.refuses(album, [Fact(0, 0, 3), Fact(0, 3, 0)])
            with self.assertRaises(TooMany):
                forcing(album, [Fact(0, 0, 3), Fact(0, 3, 0)] * 7, Fact(0, 0, 1))


if __name__ == "__main__":
    unittest.main()
