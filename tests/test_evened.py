"""Pictures enlarged so that all have one size."""

import unittest
from collections import Counter
from fractions import Fraction
from math import gcd

from farseen.albums import Album
from farseen.check_sizes import shows_evened
from farseen.errors import BadAlbum, Impossible, TooMany
from farseen.evened import Evened, NoEvening, evened
from farseen.pictures import Picture
from farseen.settled import One, settle
from farseen.sizes import sizes
from tests.helpers import LIMIT, Case, chance, fraction
from tests.plain_albums import body_albums
from tests.plain_sizes import enlarged_by, is_square, sized_albums
from tests.test_albums import no_albums
from tests.test_axes import ONE, OTHER
from tests.test_scales import SIDE
from tests.test_settled import BAD, CUBE
from tests.test_sizes import RING, SIZED
from tests.test_stretches import LINE

EVEN = Album([ONE, OTHER.times(2), SIDE.times(3)])


class EvenedTest(Case):

    def check(self, album):
        told = evened(album)
        squares = [fraction(square) for square in sizes(album).squares]
        self.assertIs(shows_evened(album, told), True)
        rooted = [is_square(square.numerator) and is_square(square.denominator) for square in squares]
        if not all(rooted):
            at = rooted.index(False)
            right = NoEvening(at, (squares[at].numerator, squares[at].denominator))
            self.assertEqual((told, type(told), bool(told), told.number, told.square), (right, NoEvening, False, at, right.parts[1]))
            return told.word
        numbers = told.numbers
        self.assertEqual((type(told), told.word, bool(told)), (Evened, "evened", True))
        self.assertEqual(gcd(*numbers), 1)
        self.assertTrue(all(number > 0 for number in numbers))
        self.assertEqual({number ** 2 * square / numbers[0] ** 2 for number, square in zip(numbers, squares)}, {Fraction(1)})
        self.assertEqual(told.album.pictures, tuple(picture.times(number) for picture, number in zip(album.pictures, numbers)))
        # In the album all pictures have one size: it is not none's, and of the same kind.
        own = settle(told.album)
        self.assertEqual("sized" + own.word, sizes(album).word)
        self.assertEqual(set(sizes(told.album).squares), {(1, 1)})
        return (told.word, len(set(numbers)) > 1)

    def test_small(self):
        self.assertEqual(evened(SIZED), NoEvening(2, (2, 1)))
        self.assertEqual([evened(SIZED.picked([1, 0])).numbers, evened(EVEN).numbers, evened(album=CUBE).numbers], [(1, 2), (6, 3, 2), (1, 1, 1)])
        self.assertEqual(evened(CUBE), Evened((1, 1, 1), CUBE))
        self.assertEqual(settle(evened(EVEN).album).chart.rows, ((324, 0, 0), (0, 324, 0), (0, 0, 324)))
        self.assertIsInstance(settle(evened(EVEN).album), One)
        self.assertEqual(evened(Album([ONE.times(-4), ONE.times(6)])), Evened((3, 2), Album([ONE.times(-12), ONE.times(12)])))
        # Of the size of the root of 2, by itself, and against another one.
        self.assertEqual(evened(Album([ONE.turned(1, 1)])).numbers, (1,))
        self.assertEqual(evened(Album([ONE.turned(1, 1), ONE.turned(-1, 1).times(3)])).numbers, (3, 1))
        self.assertEqual(evened(Album([ONE.turned(1, 1), ONE, ONE.turned(1, 2)])), NoEvening(1, (1, 2)))

    def test_enlarged(self):
        dice, found = chance(751), Counter()
        for _, _, album in body_albums(752, 40):
            found[self.check(enlarged_by(dice, album, False)[0])] += 1
            found[self.check(enlarged_by(dice, album)[0])] += 1
        for album in sized_albums(753, 10):
            if sizes(album):
                found[self.check(album)] += 1
            else:
                with self.assertRaises(Impossible) as caught:
                    evened(album)
                self.assertEqual(caught.exception.paper, sizes(album))
                found["none"] += 1
        self.assertTrue(all(found[key] > 5 for key in ("none", "noevening", ("evened", True), ("evened", False))), found)

    def test_room(self):
        great = Picture([(0, 0), (LIMIT, 0), (0, LIMIT), (0, 0)])
        small = Picture([(0, 0), (2, 0), (0, 2), (0, 0)])
        half = Picture([(0, 0), (LIMIT // 2, 0), (0, -LIMIT // 2), (0, 0)])
        self.assertEqual(evened(Album([great, small])).numbers, (1, LIMIT // 2))
        self.assertEqual(evened(Album([great, great.mirrored()])).numbers, (1, 1))
        self.assertEqual(evened(Album([half, great])).album.pictures[0].places[1], (LIMIT, 0))
        odd = Picture([(0, 0), (3, 0), (0, 3), (0, 0)])
        for call in (evened, lambda album: shows_evened(album, None), lambda album: shows_evened(album, NoEvening(0, (1, 1)))):
            self.fails(TooMany, ["places", LIMIT], call, Album([great, odd]))
            self.fails(TooMany, ["places", LIMIT], call, Album([odd, odd.shifted(LIMIT - 3, 0), odd.times(2)]))
        # Without a root nothing is enlarged.
        self.assertEqual(evened(Album([great, odd, odd.turned(1, 1)])), NoEvening(2, (9, LIMIT * LIMIT // 2)))

    def test_errors(self):
        self.fails_for(no_albums(), BadAlbum, ["album"], evened)
        for album in (RING, Album([LINE]), Album([ONE, Picture([(0, 0), (6, 0), (0, 3), (0, 0)])]), BAD):
            if sizes(album):
                self.check(album)
                continue
            with self.assertRaises(Impossible) as caught:
                evened(album)
            self.assertEqual(caught.exception.paper, sizes(album))


if __name__ == "__main__":
    unittest.main()
