"""Mixes of pins, pins in a plane, and new pictures that are told in part."""

import itertools
import unittest
from collections import Counter
from fractions import Fraction

from farseen.albums import Album
from farseen.check_fits import shows_foretold, shows_mix
from farseen.errors import BadAlbum, BadNumber, Misfit, NoPin, Twice
from farseen.pictures import Picture
from farseen.points import Amiss, Foretold, InPlane, Loose, Mix, first_four, foretold, mix
from tests.helpers import HUGE, LIMIT, Case, chance, fraction, no_integers, no_lists, odd_values, plain_rank
from tests.plain_albums import body_albums, nothing_made, some_four, whole
from tests.plain_points import (is_spread, not_spread_albums, plain_first_four, plain_foretold, plain_mix, spread_albums, steps_of)
from tests.test_albums import no_albums

WIDE = Album([Picture([(0, 0), (2, 0), (0, 2), (0, 0), (2, 2)]), Picture([(0, 0), (2, 0), (0, 0), (0, -2), (2, -2)])])
BOX = Album([Picture([(0, 0), (2, 0), (0, 2), (0, 0)]), Picture([(0, 0), (2, 0), (0, 0), (0, -2)]), Picture([(0, 0), (0, 0), (0, 2), (2, 0)])])
# Pins 0, 1, 2, 3 are in a plane, 0, 1, 4 on a line, 0 and 5 in one place.
PLANE = Album([Picture([(0, 0), (2, 0), (0, 2), (1, 1), (4, 0), (0, 0), (3, 1)]), Picture([(1, 1), (3, 1), (1, 1), (2, 1), (5, 1), (1, 1), (0, 7)])])
TOLD = [(0, 0), (3, 0), (0, 5), (1, 1), None]
NO_PLACES = no_lists() + [[0, 0], [[1]], [None, (1, 2, 3)], [[]], "0000", {0: None}, [(1, 2), "12"], range(4), [{1: 1, 2: 2}]]


def fractions_of(places):
    return tuple(tuple(map(fraction, place)) for place in places)


def plain_dependence(album, four):
    """So many times the three steps, up to the first one that is made of those ahead, add up to 0."""
    steps = list(zip(*steps_of(album, four)))
    for many in (1, 2, 3):
        if plain_rank(steps[:many]) < many:
            (way,) = nothing_made(steps[:many])
            return whole(way) + (0,) * (3 - many)
    return None


class MixTest(Case):

    def test_mix(self):
        dice, found = chance(481), Counter()
        for album in spread_albums(482, 60):
            for _ in range(6):
                four, pin = dice.sample(range(album.pins), 4), dice.randrange(album.pins)
                told, right = mix(album, four, pin), plain_mix(album, four, pin)
                self.assertIs(shows_mix(album, four, pin, told), True)
                if right is None:
                    self.assertEqual((type(told), told.word, bool(told)), (InPlane, "inplane", False))
                    self.assertEqual(told.row, plain_dependence(album, four))
                else:
                    self.assertEqual((type(told), told.word, bool(told)), (Mix, "mix", True))
                    self.assertEqual([fraction(ratio) for ratio in told.ratios], right)
                found[(told.word, pin in four)] += 1
        self.assertGreater(min(found.values()), 10)
        self.assertEqual(len(found), 4)

    def test_mix_in_the_body(self):
        # The body, and a picture of it that nobody took yet, have the same mixes.
        dice, found = chance(483), 0
        for body, _, album in body_albums(484, 30):
            if not is_spread(album):
                continue
            places = body.turned(some_four(dice, 3, False)).places
            for four in itertools.permutations(range(4)):
                told = mix(album, four, body.pins - 1)
                if isinstance(told, Mix):
                    for k in range(3):
                        start = places[four[0]][k]
                        made = sum(fraction(ratio) * (places[pin][k] - start) for ratio, pin in zip(told.ratios, four[1:]))
                        self.assertEqual(start + made, places[-1][k])
                    found += 1
        self.assertGreater(found, 50)

    def test_in_plane(self):
        for four, row in (((0, 1, 2, 3), (1, 1, -2)), ((0, 1, 4, 6), (2, -1, 0)), ((0, 5, 1, 6), (1, 0, 0)), ((3, 1, 2, 6), (1, 1, 0)),
                          ((1, 0, 5, 6), (1, -1, 0)), ((6, 0, 5, 4), (1, -1, 0))):
            for pin in range(7):
                self.assertEqual((mix(PLANE, four, pin), type(mix(PLANE, four, pin))), (InPlane(row), InPlane))
        self.assertIsInstance(mix(PLANE, (0, 1, 2, 6), 3), Mix)
        self.assertEqual(mix(album=PLANE, four=[0, 1, 2, 6], pin=0).ratios, ((0, 1), (0, 1), (0, 1)))

    def test_first_four(self):
        for album in spread_albums(485, 60):
            self.assertEqual(first_four(album), plain_first_four(album))
        self.assertEqual((first_four(PLANE), first_four(album=WIDE)), ((0, 1, 2, 6), (0, 1, 2, 3)))
        self.assertIs(type(first_four(WIDE)), tuple)

    def check_errors(self, call):
        """The errors of mix, and shows_mix, for an album, a four and a pin."""
        self.fails_for(no_albums(), BadAlbum, ["album"], lambda value: call(value, None, None))
        for album in [PLANE] + not_spread_albums():
            pins = album.pins
            for value in no_lists():
                self.fails(NoPin, [value], call, album, value, None)
            for at in range(4):
                for value in no_integers() + [-1, pins, HUGE]:
                    four = [0, 0, 0, 0]
                    four[at] = value
                    self.fails(NoPin, [value], call, album, four, None)
            self.fails(NoPin, [9], call, album, [1, 1, 9, 8, 7, 6], None)
            self.fails(Twice, [2], call, album, [0, 2, 1, 2], None)
            self.fails(Twice, [1], call, album, (1, 1), None)
            for four in ([], (0, 1, 2), [0, 1, 2, 3, 4]):
                self.fails(Misfit, ["pins"], call, album, four, None)
            for value in no_integers() + [-1, pins, HUGE]:
                self.fails(NoPin, [value], call, album, [3, 2, 1, 0], value)
        for album in not_spread_albums():
            self.fails(Misfit, ["rank"], call, album, [3, 2, 1, 0], 0)

    def test_errors(self):
        self.check_errors(mix)
        self.fails_for(no_albums(), BadAlbum, ["album"], first_four)
        self.fails_for(not_spread_albums(), Misfit, ["rank"], first_four)

    def test_none_is_not_asked(self):
        # No body has these pictures: their axis has unlike squares.
        album = Album([WIDE.pictures[0], WIDE.pictures[1].times(3)])
        self.assertEqual(mix(album, [0, 1, 2, 3], 4), mix(WIDE, [0, 1, 2, 3], 4))
        self.assertEqual(foretold(album, TOLD), foretold(WIDE, TOLD))


class ForetoldTest(Case):

    def check(self, album, places):
        told, (word, right) = foretold(album, places), plain_foretold(album, places)
        self.assertIs(shows_foretold(album, places, told), True)
        self.assertEqual((told.word, type(told), bool(told)),
                         (word, {"foretold": Foretold, "loose": Loose, "amiss": Amiss}[word], word == "foretold"))
        if word == "foretold":
            self.assertEqual(fractions_of(told.places), right)
        else:
            self.assertEqual(told.parts, (right,))
        return word

    def test_foretold(self):
        dice, found = chance(486), Counter()
        for album in spread_albums(487, 50):
            rows = [[0] + list(row) for row in album.rows]
            for _ in range(6):
                parts = [[dice.randrange(-2, 3) for _ in rows] for _ in range(2)]
                places = [tuple(sum(part * row[pin] for part, row in zip(ways, rows)) + 5 for ways in parts) for pin in range(album.pins)]
                hidden = dice.sample(range(album.pins), dice.randrange(album.pins + 1) if dice.randrange(2) else album.pins - 4)
                told = [None if pin in hidden else place for pin, place in enumerate(places)]
                if dice.randrange(3) == 0:
                    at = dice.randrange(album.pins)
                    told[at] = told[at] and (told[at][0], told[at][1] + 1)
                found[self.check(album, told)] += 1
        self.assertGreater(min(found.values()), 20)
        self.assertEqual(len(found), 3)

    def test_new_picture_of_the_body(self):
        dice, found = chance(488), 0
        for body, scale, album in body_albums(489, 30):
            if not is_spread(album):
                continue
            new = body.turned(some_four(dice, 3, False)).seen().places
            four = first_four(album)
            told = foretold(album, [place if pin in four else None for pin, place in enumerate(new)])
            self.assertEqual(fractions_of(told.places), tuple(tuple(map(Fraction, place)) for place in new))
            found += 1
        self.assertGreater(found, 10)

    def test_planes_and_lines(self):
        nothing = [None] * 7
        self.assertEqual(foretold(PLANE, nothing), Loose((0, 1, 2, 3, 4, 5, 6)))
        for told, loose in (({0: (1, 1)}, (1, 2, 3, 4, 6)), ({0: (1, 1), 5: (1, 1)}, (1, 2, 3, 4, 6)), ({1: (0, 0), 4: (9, 9)}, (2, 3, 6)),
                            ({1: (0, 0), 4: (9, 9), 2: (1, 0)}, (6,)), ({6: (0, 0)}, (0, 1, 2, 3, 4, 5))):
            places = [told.get(pin) for pin in range(7)]
            self.assertEqual(foretold(PLANE, places), Loose(loose))
            self.check(PLANE, places)
        for told, pin in (({0: (1, 1), 5: (1, 2)}, 5), ({0: (0, 0), 1: (1, 1), 4: (2, 3)}, 4), ({0: (0, 0), 1: (2, 0), 2: (0, 2), 3: (1, 2), 5: (9, 9)}, 3)):
            places = [told.get(pin) for pin in range(7)]
            self.assertEqual(foretold(PLANE, places), Amiss(pin))
            self.check(PLANE, places)
        # A line may lie on one place, the places of four pins may be any.
        self.assertEqual(foretold(PLANE, [(1, 1), None, (0, 0), None, (1, 1), None, (3, 3)]).places[1], ((1, 1), (1, 1)))

    def test_amiss_goes_ahead_of_loose(self):
        self.assertEqual(foretold(PLANE, [(0, 0), None, None, None, None, (0, 1), None]), Amiss(5))

    def check_errors(self, call):
        """The errors of foretold, and shows_foretold, for an album and places."""
        self.fails_for(no_albums(), BadAlbum, ["album"], lambda value: call(value, None))
        for album in [WIDE] + not_spread_albums():
            self.fails_for(NO_PLACES, BadNumber, ["places"], lambda value: call(album, value))
            for at in range(5):
                for value in [value for value in odd_values() if value is not None and value != [0, 0]] + [(0, 0, 0), (0, None), (True, 0), (0, 1.0)]:
                    self.fails(BadNumber, ["places"], call, album, [None] * at + [value] + [(0, 0)] * 6)
            for places in ([], (), [None] * 4, [(0, 0)] * 6):
                self.fails(Misfit, ["pins"], call, album, places)
        for album in not_spread_albums():
            self.fails(Misfit, ["rank"], call, album, TOLD)

    def test_errors(self):
        self.check_errors(foretold)

    def test_places_are_not_kept(self):
        places = [[0, 0], [3, 0], [0, 5], [1, 1], None]
        told = foretold(album=WIDE, places=places)
        places[0][0] = 7
        self.assertEqual(told, foretold(WIDE, TOLD))
        self.assertEqual(told, foretold(WIDE, tuple(place and list(place) for place in TOLD)))

    def test_great(self):
        dice = chance(490)
        while True:
            rows = [[dice.randrange(-10 ** 4, 10 ** 4) for _ in range(7)] for _ in range(3)]
            parts = [[[dice.randrange(-30000, 30000) for _ in range(3)] for _ in range(2)] for _ in range(8)]
            album = Album([Picture([tuple(sum(a * row[pin] for a, row in zip(ways, rows)) for ways in two) for pin in range(7)]) for two in parts])
            if is_spread(album):
                break
        self.assertGreater(max(abs(number) for row in album.rows for number in row), LIMIT // 2)
        for four in ((6, 5, 4, 3), (0, 1, 2, 6)):
            self.assertEqual(list(map(fraction, self.takes_short(mix, album, four, 1).ratios)), plain_mix(album, four, 1))
        told = [(dice.randrange(LIMIT), dice.randrange(LIMIT)) for _ in range(4)] + [None] * 3
        self.takes_short(self.check, album, told)
        self.takes_short(self.check, album, [(HUGE, -HUGE)] * 3 + [None, None, (0, 0), None])


if __name__ == "__main__":
    unittest.main()
