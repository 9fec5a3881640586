"""Axes of two pictures, and why two pictures are of no body."""

import itertools
import unittest
from collections import Counter

from farseen.axes import Apart, Axis, SamePlane, Thin, Unalike, Unequal, axis
from farseen.bodies import Body
from farseen.errors import BadPicture, Misfit
from farseen.kin import kin
from farseen.pictures import Picture
from tests.helpers import LIMIT, Case, chance, plain_determinant, plain_rank, primitive_of
from tests.test_albums import FIVE, no_pictures
from tests.test_bodies import some_bodies, some_fours
from tests.test_pictures import some_pictures

ONE = Picture([[0, 0], [3, 0], [0, 3], [0, 0]])
OTHER = Picture([[0, 0], [2, 2], [-1, 2], [2, -1]])


def row_of(picture, direction):
    return [direction[0] * a + direction[1] * b for a, b in zip(*picture.rows)]


class AxisTest(Case):

    def check(self, one, other):
        """The paper is the first one that is right, by what the document tells of each; its word."""
        told = axis(one, other)
        rows = [list(row) for row in one.rows + other.rows]
        many = plain_rank(rows)
        for number, picture in enumerate((one, other)):
            if plain_rank([list(row) for row in picture.rows]) < 2:
                self.assertIs(type(told), Thin)
                self.assertEqual((told.number, told.row), (number, primitive_of(told.row)))
                self.assertEqual((len(told.row), any(told.row), any(row_of(picture, told.row))), (2, True, False))
                if any(picture.rows[0]):
                    self.assertNotEqual(told.row[1], 0)
                else:
                    self.assertEqual(told.row, (1, 0))
                return told.word
        if many == 4:
            pins = next(lot for lot in itertools.combinations(range(len(rows[0])), 4)
                        if plain_determinant([[row[pin] for pin in lot] for row in rows]) != 0)
            self.assertEqual(told, Apart(0, 1, [pin + 1 for pin in pins]))
        elif many == 2:
            its = kin(one, other)
            self.assertEqual(told, SamePlane(its.hand) if its else Unalike(0, 1, its.pin, its.its))
        else:
            (m, n), (s, t) = told.mine, told.its
            self.assertEqual(row_of(one, (m, n)), row_of(other, (s, t)))
            self.assertEqual((m, n, s, t), primitive_of((m, n, s, t)))
            equal = m * m + n * n == s * s + t * t
            self.assertEqual(told, Axis((m, n), (s, t)) if equal else Unequal(0, 1, (m, n), (s, t)))
        self.assertIs(bool(told), isinstance(told, Axis))
        return told.word

    def test_small(self):
        self.assertEqual(axis(ONE, OTHER), Axis((2, 1), (1, 2)))
        self.assertEqual(axis(OTHER, ONE), Axis((1, 2), (2, 1)))
        self.assertEqual(axis(other=Picture([[0, 0], [2, 2], [-1, 3], [2, -1]]), one=ONE), Unequal(0, 1, (6, 5), (3, 6)))
        for places, right in (([[0, 0], [0, 3], [3, 0], [0, 0]], SamePlane(-1)), ([[0, 0], [6, 0], [0, 3], [0, 0]], Unalike(0, 1, 1, 1)),
                              ([[0, 0], [0, 3], [-3, 0], [0, 0]], SamePlane(1)), ([[0, 0], [3, 0], [3, 3], [0, 0]], Unalike(0, 1, 1, 2)),
                              ([[0, 0], [2, 1], [4, 2], [0, 0]], Thin(1, (1, -2))), ([[5, 5]] * 4, Thin(1, (1, 0))),
                              ([[0, 0], [0, 2], [0, 4], [0, 0]], Thin(1, (1, 0))), ([[0, 0], [2, 0], [4, 0], [0, 0]], Thin(1, (0, 1))),
                              ([[0, 0], [1, 0], [0, 0], [0, 1]], Unequal(0, 1, (1, 0), (3, 0))),
                              ([[0, 0], [3, 0], [0, 0], [0, 1]], Axis((1, 0), (1, 0))), ([[0, 0], [0, 1], [0, -3], [7, 0]], Unequal(0, 1, (1, -3), (0, 3)))):
            self.assertEqual(axis(ONE, Picture(places)), right, places)
        line = Picture([[0, 0], [1, 2], [2, 4], [3, 6]])
        self.assertEqual(axis(line, ONE), Thin(0, (2, -1)))
        self.assertEqual(axis(line, line), Thin(0, (2, -1)))
        self.assertEqual(axis(ONE, ONE), SamePlane(1))

    def test_apart(self):
        one = Picture([[0, 0], [1, 0], [0, 1], [0, 0], [0, 0]])
        self.assertEqual(axis(one, Picture([[0, 0], [0, 0], [0, 0], [1, 0], [0, 1]])), Apart(0, 1, [1, 2, 3, 4]))
        one = Picture([[0, 0], [1, 0], [2, 0], [0, 1], [0, 0], [0, 0], [1, 1]])
        other = Picture([[0, 0], [0, 0], [0, 0], [0, 0], [1, 0], [0, 5], [0, 0]])
        self.assertEqual(axis(one, other), Apart(0, 1, (1, 3, 4, 5)))
        self.assertEqual(axis(other, one), Apart(0, 1, (1, 3, 4, 5)))

    def test_attributes(self):
        told = axis(ONE, OTHER)
        self.assertEqual((told.mine, told.its), ((2, 1), (1, 2)))
        told = axis(ONE, Picture([[0, 0], [6, 0], [0, 3], [0, 0]]))
        self.assertEqual((told.one, told.other, told.pin, told.its), (0, 1, 1, 1))

    def test_all_kinds(self):
        seen = Counter()
        pictures = list(some_pictures(90, 600, 1)) + list(some_pictures(91, 300, 4))
        for one, other in zip(pictures, pictures[1:]):
            if one.pins == other.pins:
                seen[self.check(one, other)] += 1
            for changed in (one.turned(), one.mirrored().shifted(1, 2), one.turned(3, 4), one.times(-1)):
                seen[self.check(one, changed)] += 1
        for one in pictures[:200]:
            sheared = Picture([(2 * a + b, b - a) for a, b in one.places])
            seen[self.check(one, sheared)] += 1
        self.assertEqual(sorted(seen), ["apart", "axis", "sameplane", "thin", "unalike", "unequal"])
        self.assertGreater(min(seen.values()), 5, seen)

    def test_bodies_have_axes(self):
        dice = chance(92)
        fours = some_fours(93, 30)
        seen = Counter()
        for body in some_bodies(94, 150):
            one, other = body.album([dice.choice(fours), dice.choice(fours)]).pictures
            told = axis(one, other)
            self.assertIn(told.word, ("axis", "sameplane", "thin"))
            seen[self.check(one, other)] += 1
            if told.word != "thin":
                self.assertEqual(axis(one.times(2), other.times(2)).word, told.word)
                self.assertEqual(axis(one, other.times(2)).word, {"axis": "unequal", "sameplane": "unalike"}[told.word])
        self.assertGreater(seen["axis"], 100)

    def test_greatest(self):
        dice = chance(95)
        wild = [Picture([(dice.randrange(-LIMIT, LIMIT), dice.randrange(-LIMIT, LIMIT)) for _ in range(7)]) for _ in range(2)]
        self.assertEqual(self.takes_short(axis, *wild), Apart(0, 1, (1, 2, 3, 4)))
        places = [[dice.randrange(-10 ** 6, 10 ** 6) for _ in range(3)] for _ in range(7)]
        one, other = Body(places).album([(1, 2, 3, 4), (5, 1, 0, 2)]).pictures
        self.assertEqual(self.takes_short(axis, one, other).word, "axis")
        four = [Picture([(dice.randrange(-LIMIT, LIMIT), dice.randrange(-LIMIT, LIMIT)) for _ in range(4)]) for _ in range(2)]
        self.assertEqual(self.takes_short(axis, *four).word, "unequal")
        self.check(*four)

    def test_wrong(self):
        for value in no_pictures():
            self.fails(BadPicture, ["one"], axis, value, ONE)
            self.fails(BadPicture, ["other"], axis, ONE, value)
            self.fails(BadPicture, ["one"], axis, value, value)
        self.fails(Misfit, ["pins"], axis, ONE, FIVE)
        self.fails(Misfit, ["pins"], axis, FIVE.times(0), ONE)


if __name__ == "__main__":
    unittest.main()
