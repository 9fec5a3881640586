"""How much larger one of two pictures is than the other."""

import itertools
import unittest
from collections import Counter

from farseen.axes import Apart, Thin, axis
from farseen.errors import BadPicture, Misfit
from farseen.pictures import Picture
from farseen.scales import Scale, Uneven, scale
from tests.helpers import Case, chance, ratio
from tests.plain_albums import plain_axis
from tests.plain_sizes import plain_scale, sized_albums
from tests.test_albums import FIVE, no_pictures
from tests.test_axes import ONE, OTHER
from tests.test_settled import PLACE
from tests.test_stretches import FAR, LINE

SIDE = Picture([(0, 0), (0, 0), (3, 0), (0, 3)])


class ScaleTest(Case):

    def check(self, one, other):
        made, told = plain_scale(one, other)
        paper = scale(one, other)
        self.assertIs(type(paper), made)
        self.assertIs(bool(paper), made is Scale)
        if made is Scale:
            self.assertEqual((paper, paper.square), (Scale(ratio(told)), ratio(told)))
        elif made is Uneven:
            self.assertEqual((paper, paper.pins), (Uneven(0, 1, told), told))
        else:
            self.assertEqual(paper, axis(one, other))
        return paper.word

    def test_small(self):
        self.assertEqual([scale(one, other).square for one, other in ((ONE, OTHER.times(2)), (ONE, SIDE.turned(1, 1)), (OTHER.times(2), SIDE.turned(1, 1)),
                                                                      (ONE, ONE.mirrored().times(-3)))], [(4, 1), (2, 1), (1, 2), (9, 1)])
        self.assertEqual(scale(ONE, Picture([(0, 0), (6, 0), (0, 3), (0, 0)])), Uneven(0, 1, (1, 1, 2, 2)))
        self.assertEqual(scale(ONE, ONE.times(0)), Thin(1, (1, 0)))
        self.assertEqual(scale(LINE, PLACE), Thin(0, (2, -1)))
        self.assertEqual(scale(FAR[0], FAR[1]), Apart(0, 1, (1, 2, 3, 4)))
        self.assertEqual(scale(one=ONE, other=ONE), Scale((1, 1)))

    def test_drawn(self):
        found = Counter()
        for album in sized_albums(701, 15):
            for one, other in itertools.permutations(album.pictures, 2):
                found[self.check(one, other)] += 1
        for _, pins in itertools.product(range(3), (5, 6, 7)):
            found[self.check(*[Picture([[dice.randrange(-5, 6) for _ in range(2)] for _ in range(pins)]) for dice in (chance(702 + pins), chance(709 + pins))])] += 1
        self.assertTrue(all(found[word] > 3 for word in ("scale", "thin", "apart", "uneven")), found)

    def test_enlarged(self):
        # Times an integer, the scale is its square times as great; turned by two integers, the sum of their squares.
        dice = chance(703)
        for album in itertools.islice(sized_albums(704, 10), 0, None, 3):
            for one, other in itertools.combinations(album.pictures, 2):
                told = scale(one, other)
                if not told:
                    continue
                number, by = told.square
                many, x, y = dice.choice((-3, 2, 5)), dice.randrange(1, 4), dice.randrange(-3, 4)
                size = many * many * (x * x + y * y)
                larger = other.times(many).turned(x, y).shifted(3, -4).mirrored()
                self.assertEqual(scale(one, larger).square, ratio(number * size, by))
                self.assertEqual(scale(larger, one).square, ratio(by, number * size))
                if plain_axis(one, other)[0].__name__ in ("Axis", "SamePlane"):
                    self.assertEqual(told.square, (1, 1))

    def test_errors(self):
        self.fails_for(no_pictures(), BadPicture, ["one"], lambda value: scale(value, None))
        self.fails_for(no_pictures(), BadPicture, ["other"], lambda value: scale(ONE, value))
        self.fails(Misfit, ["pins"], scale, ONE, FIVE)
        self.fails(Misfit, ["pins"], scale, FIVE, LINE)


if __name__ == "__main__":
    unittest.main()
