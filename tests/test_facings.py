"""Orders of pins by which two albums can be of one body."""

import itertools
import unittest
from collections import Counter

from farseen.albums import Album
from farseen.bodies import Body
from farseen.check_together import shows_faced
from farseen.errors import BadAlbum, BadNumber, Impossible, Misfit, NoPin, TooMany, Twice
from farseen.facings import Faces, NoFacing, faced, facings
from farseen.pictures import Picture
from farseen.settled import settle
from farseen.together import together
from tests.helpers import HUGE, LIMIT, Case, chance, no_integers, odd_values
from tests.plain_albums import body_albums, kin_of, plain_chart, plain_kind, plain_quarrels
from tests.test_albums import no_albums
from tests.test_axes import ONE
from tests.test_bodies import some_bodies
from tests.test_settled import BAD, SIDES, TORN
from tests.test_stretches import LINE
from tests.test_together import BOX, FIVE, FRONT

CUBE = Album([Picture([(0, 0), (1, 0), (0, 1), (0, 0)]), Picture([(0, 0), (0, 0), (1, 0), (0, 1)]), Picture([(0, 0), (0, 1), (0, 0), (1, 0)])])
OTHER = BOX.in_order([1, 2, 3, 0])
SEVEN = Album([Picture([(0, 0), (1, 0), (0, 1), (3, 4), (5, 1), (2, 2), (7, 1)])])


def no_told():
    """Values that are no lists of pairs of integers."""
    wrong = [value for value in odd_values() if value not in ([], ())] + [(0, 1), [0, 1], {0: 1}, {(0, 1)}]
    pairs = [value for value in odd_values() if value != [0, 0]] + [(0,), (0, 1, 2), [[0, 1]], "01", (0, None), (True, 1), (1, 1.0), {0, 1}]
    return wrong + [[pair] for pair in pairs] + [[(0, 1), pair] for pair in pairs] + [((1, 2), pair, (0, 0)) for pair in pairs]


def in_order(album, order):
    return Album([Picture([picture.places[pin] for pin in order]) for picture in album.pictures])


def plain_facings(album, other, told=()):
    """All orders, one by one: the other album so, behind the first one, has no quarrel."""
    found = []
    for order in itertools.permutations(range(album.pins)):
        if all(order[pin] == its for pin, its in told) and not plain_quarrels(Album(album.pictures + in_order(other, order).pictures)):
            found.append(order)
    return tuple(found)


class FacingsTest(Case):

    def check(self, album, other, told=()):
        """What is told is what trying all orders tells; how many there are."""
        right = plain_facings(album, other, told)
        self.assertEqual(facings(album, other, told), right)
        paper = faced(album, other, told)
        if right:
            self.assertEqual((paper, type(paper), bool(paper), paper.word, paper.order), (Faces(right[0]), Faces, True, "faces", right[0]))
        else:
            orders = [order for order in itertools.permutations(range(album.pins)) if all(order[pin] == its for pin, its in told)]
            reasons = tuple(settle(Album(album.pictures + in_order(other, order).pictures)) for order in orders)
            self.assertEqual((paper, type(paper), bool(paper), paper.word, paper.reasons), (NoFacing(reasons), NoFacing, False, "nofacing", reasons))
        self.assertIs(shows_faced(album, other, told, paper), True)
        return len(right)

    def test_small(self):
        self.assertEqual([facings(BOX, OTHER), facings(BOX, OTHER, [(0, 0)]), faced(BOX, OTHER).order], [((3, 0, 1, 2),), (), (3, 0, 1, 2)])
        self.assertEqual([len(facings(CUBE, CUBE)), facings(album=CUBE, other=CUBE, told=[[1, 2]]), bool(faced(CUBE, BOX))],
                         [6, ((0, 2, 1, 3), (0, 2, 3, 1)), False])
        self.assertEqual(faced(album=CUBE, other=CUBE, told=((1, 2),)), Faces([0, 2, 1, 3]))
        self.assertEqual(self.check(BOX, OTHER), 1)
        self.assertEqual(self.check(BOX, OTHER, [(0, 0)]), 0)
        self.assertEqual(self.check(CUBE, BOX), 0)
        self.assertEqual(self.check(CUBE, CUBE, [(2, 1), (1, 2)]), 1)
        self.assertEqual(self.check(CUBE, CUBE, [(3, 3), (0, 0), (2, 1), (1, 2)]), 1)
        self.assertEqual(self.check(CUBE, CUBE, [(0, 1), (1, 2), (2, 3), (3, 0)]), 0)
        self.assertEqual(len(faced(CUBE, CUBE, [(0, 1), (1, 2), (2, 3), (3, 0)]).reasons), 1)

    def test_one_chart(self):
        # All orders of four pins: those that leave the chart alike, for albums of a body and the body in another order.
        dice, found = chance(811), Counter()
        for body in some_bodies(812, 60, 1):
            if body.pins > 4:
                continue
            album = body.album([(1, 0, 0, 0), (1, 1, 0, 0), (1, 0, 1, 0)])
            order = dice.sample(range(4), 4)
            other = Album([kin_of(dice, picture) for picture in body.in_order(order).album([(1, 0, 1, 0), (1, -1, 0, 0), (0, 1, 1, 0)]).pictures])
            if plain_kind(album) == plain_kind(other) == "one":
                charts = {its: plain_chart(in_order(other, its)) for its in itertools.permutations(range(4))}
                right = tuple(its for its, chart in charts.items() if chart == plain_chart(album))
                self.assertEqual(facings(album, other), right)
                self.assertIn(tuple(order.index(pin) for pin in range(4)), right)
                found[len(right)] += 1
        self.assertGreater(len(found), 1, found)

    def test_orders_of_an_album_with_itself(self):
        # Two of them one behind the other make such an order, each turned back does; with another album there are as many, or none.
        square = Body([(1, 1, 0), (1, -1, 0), (-1, -1, 0), (-1, 1, 0), (0, 0, 1)]).album([(1, 0, 0, 0), (1, 1, 0, 0), (1, 0, 1, 0)])
        four = Body([(1, 1, 1), (1, -1, -1), (-1, 1, -1), (-1, -1, 1)]).album([(1, 0, 0, 0), (1, 1, 0, 0), (1, 0, 1, 0)])
        for album, many in ((CUBE, 6), (square, 8), (four, 24), (BOX, 1)):
            orders = facings(album, album)
            self.assertEqual(len(orders), many)
            self.assertEqual(orders, tuple(sorted(orders)))
            pins = range(album.pins)
            for one, other in itertools.product(orders, repeat=2):
                self.assertIn(tuple(one[other[pin]] for pin in pins), orders)
                self.assertIn(tuple(one.index(pin) for pin in pins), orders)
            turned = list(pins)[1:] + [0]
            self.assertEqual(len(facings(album, album.in_order(turned))), many)
            self.assertEqual(together(album, album.in_order(orders[-1])).word, "same")

    def test_kinds(self):
        dice, found = chance(813), Counter()
        for _, _, album in body_albums(814, 60, 3):
            if album.pins > 4:
                continue
            order = dice.sample(range(4), 4)
            other = album.in_order(order)
            for told in ((), [(pin, order.index(pin)) for pin in dice.sample(range(4), 2)], [(0, dice.randrange(4))]):
                many = self.check(album, other, told)
                found[(plain_kind(album), many > 0)] += 1
            self.assertIn(tuple(order.index(pin) for pin in range(4)), facings(album, other))
            last = album
        self.assertTrue(all(found[(kind, True)] > 1 for kind in ("free", "stretch", "one")) and found[("one", False)] > 0, found)
        self.assertGreaterEqual(self.check(last, Album([FRONT])), 0)

    def test_told_pairs(self):
        dice = chance(815)
        for body in itertools.islice((body for body in some_bodies(816, 60) if body.pins > 5), 6):
            album = body.album([(1, 0, 0, 0), (1, 1, 0, 0), (1, 0, 1, 0)])
            order = dice.sample(range(body.pins), body.pins)
            other = album.in_order(order)
            back = [order.index(pin) for pin in range(body.pins)]
            loose = body.pins - 5
            for many in range(loose, body.pins + 1):
                told = [(pin, back[pin]) for pin in dice.sample(range(body.pins), many)]
                self.assertEqual(facings(album, other, told), tuple(its for its in facings(album, other, told) if all(its[pin] == mine for pin, mine in told)))
                self.assertIn(tuple(back), facings(album, other, told))
                self.assertEqual(faced(album, other, told).order, facings(album, other, told)[0])
            for many in range(loose):
                for call in (facings, faced, lambda *args: shows_faced(*args, None)):
                    self.fails(TooMany, ["pins", 5], call, album, other, [(pin, back[pin]) for pin in range(many)])

    def test_none(self):
        for album, other in ((BAD, CUBE), (CUBE, BAD), (TORN, BAD), (Album([LINE]), CUBE)):
            first = album if plain_quarrels(album) else other
            for call in (facings, faced):
                for told in ((), [(0, 0), (1, 1), (2, 2), (3, 3)]):
                    with self.assertRaises(Impossible) as caught:
                        call(album, other, told)
                    self.assertEqual(caught.exception.paper, settle(first))

    def test_errors(self):
        eight, none = Album([FRONT] * 8), Album([LINE] * 5)
        calls = (facings, faced, lambda album, other, told: shows_faced(album, other, told, None))
        for call in calls:
            self.fails_for(no_albums(), BadAlbum, ["album"], lambda value: call(value, None, None))
            for album in (BOX, eight, none):
                self.fails_for(no_albums(), BadAlbum, ["other"], lambda value: call(album, value, None))
                for other in (BOX, FIVE, eight, SEVEN):
                    self.fails_for(no_told(), BadNumber, ["told"], lambda value: call(album, other, value))
            # The pins are those of each album by itself, pair by pair.
            for told, value in (([(4, 5)], 4), ([(0, 5), (9, 9)], 5), ([(0, 0), (-1, 0)], -1), ([[0, 0], [1, HUGE]], HUGE), ([(0, 0), (0, 0), (3, 5)], 5)):
                self.fails(NoPin, [value], call, BOX, FIVE, told)
            self.fails(NoPin, [4], call, BOX, OTHER, [(0, 4)])
            self.fails(NoPin, [5], call, FIVE, SEVEN, [(4, 6), (5, 0)])
            for other in (OTHER, FIVE, eight):
                self.fails(Twice, [0], call, BOX, other, [(0, 1), (1, 2), (0, 3), (1, 1)])
                self.fails(Twice, [2], call, BOX, other, [(0, 2), (1, 2)])
                self.fails(Twice, [3], call, BOX, other, [(0, 2), (3, 2), (3, 1), (1, 1)])
            self.fails(Misfit, ["pins"], call, BOX, FIVE, [(0, 4)])
            self.fails(Misfit, ["pins"], call, SEVEN, eight, ())
            self.fails(TooMany, ["pictures", 8], call, eight, BOX, ())
            self.fails(TooMany, ["pictures", 8], call, none, none, [(0, 0)])
            self.fails(TooMany, ["pictures", 8], call, Album(SEVEN.pictures * 8), SEVEN, ())
            self.fails(TooMany, ["pins", 5], call, SEVEN, SEVEN, ())
            self.fails(TooMany, ["pins", 5], call, SEVEN, SEVEN, [(1, 4)])
            thin = Album([Picture([(pin, 0) for pin in range(7)])])
            self.fails(TooMany, ["pins", 5], call, thin, SEVEN, [(1, 4)])
        self.assertTrue(facings(SEVEN, SEVEN, [(0, 0), (1, 1)]))


class ShortTimeTest(Case):

    def test_greatest(self):
        dice = chance(817)
        body = Body([[dice.randrange(-10 ** 6, 10 ** 6) for _ in range(3)] for _ in range(7)])
        album = body.album([(1, 1, 0, 0), (1, 0, 1, 0), (1, 0, 0, 1), (1, 1, 1, 1), (1, -1, 1, 1), (1, 1, 1, 0), (1, 0, 0, 0), (0, 1, 2, 0)])
        one, other = album.picked([0, 1, 2, 3]), album.picked([4, 5, 6, 7])
        self.assertGreater(max(abs(number) for picture in album.pictures for place in picture.places for number in place), 10 ** 7)
        self.assertEqual(self.takes_short(facings, one, other, [(5, 5), (6, 6)]), (tuple(range(7)),))
        paper = self.takes_short(faced, one, other, [(5, 6), (6, 5)])
        self.assertEqual(len(paper.reasons), 120)
        self.assertTrue(self.takes_short(shows_faced, one, other, [(5, 6), (6, 5)], paper))
        # Of pictures of one plane any two pins may be exchanged: what their step goes aside is an axis of both.
        flat = Album([Picture([(dice.randrange(-LIMIT, LIMIT), dice.randrange(-LIMIT, LIMIT)) for _ in range(7)])] * 4)
        self.assertEqual(len(self.takes_short(facings, flat, flat, [(0, 0), (6, 6)])), 11)


if __name__ == "__main__":
    unittest.main()
