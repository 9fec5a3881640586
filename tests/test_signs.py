"""Signs of x + y c + z c c between -1 and 1."""

import itertools
import unittest
from fractions import Fraction

from farseen.check_sayings import shows_signs
from farseen.errors import BadNumber, BadRatio
from farseen.signs import Signs, sign_at, signs
from tests.helpers import HUGE, ShowsCase, chance, is_plain_ratio, is_plain_row, no_integers, odd_values

NO_ROWS = odd_values() + [[0], [0, 0, 0, 0], "000", {0: 1, 1: 2, 2: 3}, {1, 2, 3}, range(3)]
NO_CS = [value for value in odd_values() if value != (0, 1)] + [(1, 1), (-1, 1), (3, 2), (-3, 2), (2, 4), (0, 2), (1, 0), (1, -2), "01", (1, 2, 3), 0]
TAKEN = [(4, -12, 9), (1, -3, 1), (-1, 0, 1), (1, 0, -1), (0, 0, 0), (5, 0, 0), (0, 2, 0), (3, 3, 0), (1, 2, 1), (0, 0, -2), (-1, 1, 1)]


def worth_at(row, c):
    """What the row makes at this fraction."""
    x, y, z = row
    return x + y * c + z * c * c


def plain_signs(row):
    """Whether it is below 0, 0, above 0 somewhere between -1 and 1: by places of which one must tell it.

    Where it is above 0 it is so in the middle, at the turning point, or as near as can be to an end.
    """
    x, y, z = row
    near = 1 - Fraction(1, 4 * (abs(x) + abs(y) + abs(z) + 1) ** 2)
    places = [Fraction(0), near, -near]
    if z and abs(y) < 2 * abs(z):
        places.append(Fraction(-y, 2 * z))
    worths = [worth_at(row, c) for c in places]
    below, above = min(worths) < 0, max(worths) > 0
    return below, below and above or 0 in worths, above


def is_c(value):
    return is_plain_ratio(value) and abs(value[0]) < value[1]


def are_right_signs(row, parts):
    """Whether the parts are those of any Signs of the row, by the document."""
    below, zero, above = parts
    told = plain_signs(row)
    for sign, c, can in ((-1, below, told[0]), (1, above, told[2])):
        if c is None or not can:
            if c is not None or can:
                return False
        elif not is_c(c) or worth_at(row, Fraction(*c)) * sign <= 0:
            return False
    if zero is None or not told[1]:
        return zero is None and not told[1]
    if not isinstance(zero, tuple) or not all(is_c(c) for c in zero):
        return False
    worths = [worth_at(row, Fraction(*c)) for c in zero]
    return len(worths) == 1 and worths[0] == 0 or len(worths) == 2 and worths[0] < 0 < worths[1]


def some_rows(seed, many):
    dice = chance(seed)
    for _ in range(many):
        most = dice.choice((20, 10 ** 9, 10 ** 40))
        yield tuple(dice.randrange(-most, most + 1) for _ in range(3))
    for _ in range(many):
        # So many times a square, or nearly so: 0 at the turning point alone.
        a, b = dice.randrange(-10 ** 9, 10 ** 9), dice.randrange(-10 ** 9, 10 ** 9)
        by, move = dice.choice((1, -1, 3)), dice.choice((0, 0, 1, -1))
        yield (by * a * a + move, 2 * by * a * b, by * b * b)
    for _ in range(many):
        # 0 at an end, or next to it.
        y, z = dice.randrange(-10 ** 9, 10 ** 9), dice.randrange(-10 ** 9, 10 ** 9)
        yield (dice.choice((y, -y)) - z + dice.choice((0, 0, 1, -1)), y, z)


class SignsTest(ShowsCase):

    def check(self, row):
        told = signs(row)
        self.assertIs(type(told), Signs)
        self.assertTrue(are_right_signs(row, told.parts), (row, told.parts))
        self.assertEqual((told.below, told.zero, told.above), told.parts)
        self.assertEqual(signs(list(row)), told)
        self.assertIs(shows_signs(row, told), True)

    def test_small(self):
        for row in itertools.product(range(-6, 7), repeat=3):
            self.check(row)

    def test_some(self):
        for row in some_rows(431, 150):
            self.check(row)

    def test_zero_at_one_place(self):
        for row in ((4, -12, 9), (-4, 12, -9), (0, 0, 7), (1, -2, 1), (0, 0, 0)):
            self.check(row)
        self.assertEqual(signs((4, -12, 9)).parts, (None, ((2, 3),), signs((4, -12, 9)).above))
        self.assertEqual(signs((0, 0, -3)).zero, ((0, 1),))
        # At an end, which is not between.
        self.assertEqual(signs((1, -2, 1)).parts[:2], (None, None))
        self.assertEqual(signs((-1, 0, 1)).parts[1:], (None, None))
        self.assertEqual([signs((0, 0, 0)).parts[at] for at in (0, 2)], [None, None])

    def test_between_no_ratios(self):
        # 2 c c is 1 at no ratio.
        told = signs([-1, 0, 2])
        self.assertEqual(told.zero, (told.below, told.above))

    def test_near_to_an_end(self):
        big = 10 ** 18
        for row in ((-big, big + 1, 0), (big, -big - 1, 0), (-big, 0, big + 1), (1 - big, 1, big), (-big, -big - 1, 0)):
            self.check(row)
            self.assertTrue(all(told is not None for told in signs(row).parts))

    def test_errors(self):
        for call in (signs, lambda row: sign_at(row, None), lambda row: sign_at(row, (0, 1)), lambda row: shows_signs(row, None)):
            self.fails_for(NO_ROWS, BadNumber, ["row"], call)
            self.is_no_list_of([1, 2, 3], no_integers(), BadNumber, ["row"], lambda row: signs(row))

    def test_sign_at(self):
        for row in itertools.product((-3, -1, 0, 1, 2), repeat=3):
            for c in ((0, 1), (1, 2), (-1, 2), (2, 3), (-99, 100), (99, 100)):
                worth = worth_at(row, Fraction(*c))
                told = sign_at(row=row, c=list(c))
                self.assertEqual((type(told), told), (int, (worth > 0) - (worth < 0)))
        self.assertEqual(sign_at([HUGE, 0, -HUGE], (HUGE - 1, HUGE)), 1)
        self.assertEqual(sign_at([4, -12, 9], (2, 3)), 0)
        self.fails_for(NO_CS, BadRatio, ["c"], lambda c: sign_at([1, 2, 3], c))


class ShowsSignsTest(ShowsCase):

    def test_bent(self):
        for row in TAKEN:
            self.shows_no_bent(lambda value: shows_signs(row, value), signs(row), lambda parts: are_right_signs(row, parts))
            self.shows_nothing_else(lambda value: shows_signs(list(row), value), [(Signs, 3)], [signs(row)])

    def test_any_such(self):
        cs = [None, (-1, 1), (-9, 10), (-1, 2), (0, 1), (1, 3), (2, 3), (99, 100), (1, 1), (2, 1), (2, 4), (0, 2), (True, 2)]
        zeros = [None, ()] + [(c,) for c in cs[1:]] + list(itertools.product(cs[1:8], repeat=2)) + [((0, 1),) * 3, (0, 1)]
        for row in TAKEN:
            below, zero, above = signs(row).parts
            values = [(one, zero, other) for one, other in itertools.product(cs, repeat=2)] + [(below, its, above) for its in zeros]
            values += [(one, its, other) for one, other in itertools.product(cs[::3], repeat=2) for its in zeros[::5]]
            shown = [shows_signs(row, Signs(*parts)) for parts in values]
            self.assertEqual(shown, [are_right_signs(row, parts) for parts in values])
            self.assertIn(True, shown)

    def test_whole_row(self):
        self.assertIs(is_plain_row(signs([1, -3, 1]).below, 2), True)
        self.assertIs(shows_signs([1, -3, 1], Signs([1, 2], [(1, 2), (0, 1)], (0, 1))), True)


if __name__ == "__main__":
    unittest.main()
