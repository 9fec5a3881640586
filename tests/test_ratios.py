"""Reckoning with ratios."""

import unittest
from fractions import Fraction

from farseen.errors import BadRatio
from farseen.ratios import compared, minus, over, plus, times
from tests.helpers import HUGE, Case, odd_values, ratio

SOME = [ratio(number, by) for number in (-7, -3, -1, 0, 1, 2, 5) for by in (1, 2, 3, 4)]
CALLS = [plus, minus, times, over, compared]


class RatiosTest(Case):

    def test_reckoning(self):
        for one in SOME:
            for other in SOME:
                mine, its = Fraction(*one), Fraction(*other)
                self.assertEqual(plus(one, list(other)), ratio(mine + its))
                self.assertEqual(minus(list(one), other), ratio(mine - its))
                self.assertEqual(times(one, other), ratio(mine * its))
                self.assertEqual(compared(one, other), (mine > its) - (mine < its))
                if its:
                    self.assertEqual(over(one, other), ratio(mine / its))
                    self.assertIsInstance(over(one, other), tuple)

    def test_many_digits(self):
        self.assertEqual(plus((1, HUGE), (-1, HUGE)), (0, 1))
        self.assertEqual(times((HUGE, 1), (1, HUGE)), (1, 1))
        self.assertEqual(compared((HUGE, HUGE + 1), (HUGE + 1, HUGE + 2)), -1)

    def test_wrong_ratios(self):
        wrong = odd_values() + [(2, 4), (0, 2), (1, 0), (1, -1), (1,), (1, 2, 3), (True, 2), (1, True), (1.0, 2), "12"]
        for call in CALLS:
            for value in wrong:
                self.fails(BadRatio, ["one"], call, value, (1, 2))
                self.fails(BadRatio, ["other"], call, (1, 2), value)
                self.fails(BadRatio, ["one"], call, value, value)
            self.assertIsNotNone(call(other=(1, 2), one=(1, 3)))
        self.fails(BadRatio, ["other"], over, (1, 2), (0, 1))
        self.fails(BadRatio, ["one"], over, None, (0, 1))

    def test_what_is_passed_stays(self):
        one, other = [1, 2], [1, 3]
        for call in CALLS:
            call(one, other)
        self.assertEqual((one, other), ([1, 2], [1, 3]))


if __name__ == "__main__":
    unittest.main()
