"""Which papers on depths and facts are right."""

import itertools
import unittest
from collections import Counter

from farseen.albums import Album
from farseen.axes import Thin
from farseen.check_fronts import shows_depths, shows_fronts
from farseen.errors import BadAlbum, Misfit, NoPicture
from farseen.facts import Fact
from farseen.fronts import Against, Depths, Hands, Order, Ranges, depths, fronts
from farseen.papers import Denial
from farseen.settled import settle
from tests.helpers import HUGE, ShowsCase, are_plain, chance, is_plain_ratio, is_plain_row, no_integers, odd_values
from tests.plain_fronts import PlainReadings, few_pin_albums, some_facts, turned_albums
from tests.test_albums import no_albums
from tests.test_fronts import BENT, FIRM, LOOSE, NARROW
from tests.test_settled import BAD, SIDES, TORN

CLASSES = [(Hands, 1), (Ranges, 2), (Order, 1), (Against, 1), (Depths, 2), (Thin, 2)]
NEAR, FAR = Fact(0, 0, 3), Fact(0, 3, 0)


class ShowsDepthsTest(ShowsCase):

    def test_small(self):
        for paper, right in ((Depths((1, 4), [-2, 4, 4]), True), (Depths((1, 1), [1, -2, -2]), False), (Depths((1, 1), [-1, 2, 2]), True),
                             (Depths((1, 9), (-3, 6, 6)), True), (Depths((4, 1), (-1, 2, 2)), False), (Depths((1, 4), (-2, 4, -4)), False),
                             (Depths((1, 1), (-1, 2)), False), (Depths((1, 1), (-1, 2, 2, 0)), False), (Depths((2, 2), (-1, 2, 2)), False),
                             (Depths((-1, 1), (-1, 2, 2)), False), (Depths((-1, 1), (1, -2, -2)), False), (Depths((0, 1), (0, 0, 0)), False), (Depths((1, 1), (-1, 2, 3)), False)):
            self.assertIs(shows_depths(FIRM, 1, paper), right, paper.parts)
        self.assertIs(shows_depths(album=FIRM, picture=0, value=Depths((1, 1), (0, 0, 3))), True)

    def test_what_depths_tells(self):
        dice = chance(631)
        found = 0
        for album, _, _ in turned_albums(632, 40):
            if settle(album).word != "one":
                continue
            for number in range(len(album)):
                paper = depths(album, number)

                def call(value):
                    return shows_depths(album, number, value)
                self.shows(call, paper)
                (top, by), row = paper.parts
                many = dice.choice((2, 3, -1, HUGE))
                for its, right in ((many, many > 0), (-many, many < 0)):
                    square = (top, by * its * its)
                    if top % abs(its) == 0:
                        continue
                    self.assertIs(call(Depths(square, [its * one for one in row])), right and self.is_lowest(square))
                at = dice.randrange(len(row))
                self.assertIs(call(Depths((top, by), row[:at] + (row[at] + 1,) + row[at + 1:])), False)
                self.assertIs(call(Depths((top + by, by), row)), False)
                found += 1
        self.assertGreater(found, 10)

    def is_lowest(self, square):
        return is_plain_ratio(square)

    def test_bent(self):
        def is_right(parts):
            square, row = parts
            if not is_plain_ratio(square) or square[0] <= 0 or not is_plain_row(row, 3):
                return False
            return all(mine * abs(mine) * square[0] == its * abs(its) * square[1] for mine, its in zip(row, (-1, 2, 2)))
        self.shows_no_bent(lambda value: shows_depths(FIRM, 1, value), Depths((1, 1), (-1, 2, 2)), is_right)
        self.shows_no_bent(lambda value: shows_depths(FIRM, 1, value), Depths((1, 4), (-2, 4, 4)), is_right)
        self.shows_nothing_else(lambda value: shows_depths(FIRM, 1, value), CLASSES)

    def test_errors(self):
        for value in (None, Depths((1, 1), (-1, 2, 2)), Hands((1,))):
            for wrong in no_albums():
                self.fails(BadAlbum, ["album"], shows_depths, wrong, None, value)
            for wrong in no_integers() + [-1, 3]:
                self.fails(NoPicture, [wrong], shows_depths, FIRM, wrong, value)
                self.fails(NoPicture, [wrong], shows_depths, BAD, wrong, value)
            for album in (LOOSE, BENT):
                self.fails(Misfit, ["kind"], shows_depths, album, 0, value)
            for album in (BAD, TORN, Album(SIDES)):
                self.assertIs(shows_depths(album, 0, value), False)


class ShowsFrontsTest(ShowsCase):

    def test_small(self):
        told = [Fact(0, 3, 0), Fact(0, 2, 3)]
        for album, facts, paper, right in (
                (LOOSE, told, Order([2, 3, 1, 0]), True), (LOOSE, told, Order([1, 2, 3, 0]), True), (LOOSE, told, Order([2, 0, 3, 1]), False),
                (LOOSE, [], Order((3, 2, 1, 0)), True), (LOOSE, [], Order((3, 2, 1)), False), (LOOSE, [], Order((3, 2, 1, 1)), False),
                (LOOSE, [], Order((3, 2, 1, 0, 4)), False), (LOOSE, [], Hands((-1, 1)), False), (LOOSE, [], Against(()), False),
                (NARROW, [Fact(0, 0, 1), Fact(0, 0, 3)], Against([0, 1]), False), (BENT, [NEAR, FAR], Against((0, 1)), True),
                (BENT, [NEAR, FAR], Ranges(None, None), False), (FIRM, [NEAR, FAR], Hands(()), False), (FIRM, [NEAR, FAR], Hands((1,)), False),
                (FIRM, [NEAR], Hands((1,)), True), (FIRM, [], Hands((1,)), False), (FIRM, [], Hands((1, -1)), False),
                (FIRM, [], Hands((-1, 1)), True), (FIRM, [NEAR, FAR, NEAR], Against((0, 1, 2)), True), (FIRM, [], Order((0, 1, 2, 3)), False),
                (FIRM, [NEAR, FAR, NEAR], Against((1, 2)), True), (FIRM, [NEAR, FAR, NEAR], Against((0, 2)), False),
                (FIRM, [NEAR, FAR, NEAR], Against((1, 0)), False), (FIRM, [NEAR, FAR, NEAR], Against((0, 1, 1)), False),
                (FIRM, [NEAR, FAR], Against((0, 2)), False), (FIRM, [NEAR, FAR], Against((-1, 0)), False)):
            self.assertIs(shows_fronts(album, facts, paper), right, (paper.word, paper.parts))
        self.assertIs(shows_fronts(album=FIRM, facts=(NEAR,), value=Hands([1])), True)

    def test_drawn(self):
        dice = chance(635)
        found = Counter()
        for album, _, _ in few_pin_albums(636, 40):
            plain = PlainReadings(album)
            for many in (0, 1, 3, 4):
                facts = some_facts(dice, album, many)
                paper = fronts(album, facts)
                self.shows(lambda value: shows_fronts(album, facts, value), paper)
                for value, right in self.papers(plain, facts):
                    self.assertIs(shows_fronts(album, facts, value), right, (str(album), [str(fact) for fact in facts], value.parts))
                    found[(value.word, right)] += 1
        self.assertTrue(all(found[(word, right)] > 3 for word in ("hands", "ranges", "order", "against") for right in (True, False)), found)

    def papers(self, plain, facts):
        """Papers of all kinds, and whether each is right."""
        keys, pins = plain.keys_with(facts), range(plain.album.pins)
        for size in range(4):
            for hands in itertools.product((-1, 1, 0), repeat=size):
                yield Hands(hands), plain.kind == "one" and hands == tuple(keys) and size > 0
        ranges = plain.parts(facts) if plain.kind == "stretch" else (None, None)
        yield Ranges(*ranges), plain.kind == "stretch" and bool(keys)
        yield Ranges(*ranges[::-1]), plain.kind == "stretch" and bool(keys) and ranges[0] == ranges[1]
        yield Ranges(((-1, 1), (1, 1)), None), plain.kind == "stretch" and ranges == (((-1, 1), (1, 1)), None)
        for order in itertools.permutations(pins):
            yield Order(order), plain.kind == "free" and order in keys
        for size in range(len(facts) + 1):
            for lot in itertools.combinations(range(len(facts)), size):
                yield Against(lot), not plain.keys_with([facts[number] for number in lot])

    def test_bent(self):
        for album, facts in ((LOOSE, []), (LOOSE, [Fact(0, 3, 0), Fact(0, 2, 3)]), (BENT, []), (BENT, [NEAR]), (FIRM, []), (FIRM, [FAR])):
            plain = PlainReadings(album)

            def is_right(parts):
                return plain.kind == "free" and are_plain(parts) and parts[0] in plain.keys_with(facts)
            self.shows_no_bent(lambda value: shows_fronts(album, facts, value), fronts(album, facts), is_right)
        for album in (LOOSE, BENT, FIRM):
            facts = [NEAR, FAR, NEAR]

            def is_against(parts):
                return are_plain(parts) and parts[0] in ((0, 1), (1, 2), (0, 1, 2))
            self.shows_no_bent(lambda value: shows_fronts(album, facts, value), fronts(album, facts), is_against)
            self.shows_nothing_else(lambda value: shows_fronts(album, facts, value), CLASSES)
            self.shows_nothing_else(lambda value: shows_fronts(album, [NEAR], value), CLASSES)

    def test_none(self):
        # Of an album that is none's nothing is right, whatever the facts.
        for album in (BAD, TORN, Album(SIDES)):
            for paper in (Hands((-1, 1)), Hands(()), Ranges(((-1, 1), (1, 1)), ((-1, 1), (1, 1))), Order((0, 1, 2, 3)), Against((0, 1)), Against((0,)),
                          Against(()), settle(album), Denial("no"), None):
                self.assertIs(shows_fronts(album, [NEAR, FAR], paper), False)


if __name__ == "__main__":
    unittest.main()
