"""What any value is, and numbers in lowest terms."""

import unittest
from fractions import Fraction
from math import gcd

from farseen.checks import (are_integers, common_divisor, first_twice, is_integer, is_name, is_primitive, is_ratio,
                            is_within, lowest, primitive)
from farseen.errors import BadNumber
from tests.helpers import HUGE, Case, chance, no_integers, no_lists, odd_values, primitive_of


class IsTest(Case):

    def test_integers(self):
        for value in (0, 1, -1, HUGE, -HUGE):
            self.assertIs(is_integer(value), True)
        for value in no_integers():
            self.assertIs(is_integer(value), False, value)

    def test_within(self):
        for value, least, most, right in (
                (3, 3, 3, True), (2, 3, 4, False), (3, 3, 4, True), (4, 3, 4, True), (5, 3, 4, False),
                (3, None, 3, True), (4, None, 3, False), (3, 3, None, True), (2, 3, None, False),
                (HUGE, None, None, True), (-HUGE, None, 0, True), (HUGE, 0, None, True), (0, 1, 0, False),
                (0, -1, None, True), (0, None, -1, False), (0, 0, None, True), (0, None, 0, True), (-1, 0, None, False)):
            self.assertIs(is_within(value, least, most), right, (value, least, most))
        for value in no_integers():
            self.assertIs(is_within(value, None, None), False, value)
            self.assertIs(is_within(value, 0, 9), False, value)

    def test_names(self):
        for value in ("a", "z", "a1", "a0", "abcdefghijkl", "a12345678901", "z9", "true"):
            self.assertIs(is_name(value), True, value)
        for value in ("", "A", "aB", "1", "1a", "a b", "a ", " a", "a_b", "a-b", "a.b", "abcdefghijklm", "a\n", "\u00e4",
                      "a\u0661", "a\u00b2", "{", "a{", "a`", "`", "a/", "a:", "a;", None, True, 0, 1, b"a", ["a"],
                      ("a",), {"a"}, {"a": 1}, 1.0):
            self.assertIs(is_name(value), False, value)

    def test_lists_of_integers(self):
        for value in ([], (), [0], (0,), [1, -2, HUGE]):
            self.assertIs(are_integers(value), True, value)
        for value in no_lists() + [[None], [1, True], [False], (1, 1.0), [1, "1"], [[1]], [1, []]]:
            self.assertIs(are_integers(value), False, value)

    def test_ratios(self):
        for value in ((0, 1), [0, 1], (1, 1), (-1, 1), (3, 2), [-3, 2], (HUGE, 3), (1, HUGE)):
            self.assertIs(is_ratio(value), True, value)
        for value in ((0, 0), (0, 2), (0, -1), (1, 0), (1, -1), (2, 4), (-2, 4), (2, 2), (3, -2), (-3, -2), (1,), (1, 2, 3),
                      (), [], [True, 2], [1, True], (1.0, 2), (1, 2.0), "12", 1, 0, None, True, Fraction(1, 2), {1: 2},
                      {1, 2}, range(1, 3), [[1], 2], ((1, 2),), ((1, 2), (1, 3))):
            self.assertIs(is_ratio(value), False, value)
        for value in odd_values():
            self.assertIs(is_ratio(value), False, value)

    def test_primitive_lists(self):
        for value in ([1], (1, 0), [0, 1], [0, 2, -3], (6, 10, 15), (1, HUGE), [1, 1]):
            self.assertIs(is_primitive(value), True, value)
        for value in ([0], [0, 0], [], (), [2], [-1], [0, -1], [2, 4], [0, -2, 3], (-1, 2), [True], [1, True], [1.0],
                      [0, 2, 0], "1", None, 1, {1}, [[1]], [HUGE, HUGE]):
            self.assertIs(is_primitive(value), False, value)
        for value in odd_values():
            self.assertIs(is_primitive(value), False, value)

    def test_first_twice(self):
        for values, right in (([], None), ([1], None), ([1, 2, 3], None), ([1, 2, 1, 2], 1), ([2, 1, 1, 2], 1),
                              ([3, 2, 2, 3, 3], 2), (["a", "b", "a"], "a"), (("a", 0, 0), 0), ((0, 0), 0), ([1, "1"], None),
                              ([HUGE, 1, HUGE], HUGE)):
            self.assertEqual(first_twice(values), right)


class NumbersTest(Case):

    def test_common_divisor(self):
        for values, right in (([], 0), ((), 0), ([0], 0), ([0, 0], 0), ([5], 5), ([-5], 5), ([0, -5], 5), ([-12, 18, 0], 6),
                              ([6, 10, 15], 1), ([HUGE, 0], HUGE), ((4, -6), 2)):
            self.assertEqual(common_divisor(values), right)

    def test_primitive(self):
        for values, right in (([], ()), ([0, 0], (0, 0)), ((0,), (0,)), ([0, -4, 6], (0, 2, -3)), ([-1], (1,)), ([4], (1,)),
                              ([2, 4], (1, 2)), ([-2, 4], (1, -2)), ([3, -5], (3, -5)), ([HUGE, -HUGE], (1, -1)),
                              ((0, 0, -7), (0, 0, 1))):
            self.assertEqual(primitive(values), right)
            self.assertIsInstance(primitive(values), tuple)
        dice = chance(1)
        for _ in range(200):
            row = [dice.randrange(-9, 10) * dice.choice([1, 2, 3]) for _ in range(dice.randrange(1, 6))]
            self.assertEqual(primitive(row), primitive_of(row))
            self.assertEqual(is_primitive(row), any(row) and tuple(row) == primitive_of(row))

    def test_wrong_lists(self):
        for call in (common_divisor, primitive):
            self.fails_for(no_lists(), BadNumber, ["values"], call)
            self.is_no_list_of([2, 4, 6], no_integers(), BadNumber, ["values"], call)

    def test_lowest(self):
        for number, by, right in ((0, 1, (0, 1)), (0, -7, (0, 1)), (0, 9, (0, 1)), (6, -4, (-3, 2)), (-6, -4, (3, 2)),
                                  (6, 4, (3, 2)), (-6, 4, (-3, 2)), (5, 1, (5, 1)), (5, -1, (-5, 1)), (4, 2, (2, 1)),
                                  (HUGE, 2 * HUGE, (1, 2))):
            self.assertEqual(lowest(number, by), right)
        for number in range(-12, 13):
            for by in range(1, 8):
                told = lowest(number, by)
                self.assertEqual((Fraction(number, by), gcd(*told)), (Fraction(*told), 1))

    def test_lowest_of_wrong_numbers(self):
        for value in no_integers():
            self.fails(BadNumber, ["number"], lowest, value, 1)
            self.fails(BadNumber, ["number"], lowest, value, 0)
            self.fails(BadNumber, ["number"], lowest, value, value)
            self.fails(BadNumber, ["by"], lowest, 1, value)
        self.fails(BadNumber, ["by"], lowest, 1, 0)
        self.fails(BadNumber, ["by"], lowest, 0, 0)
        self.assertEqual(lowest(by=4, number=2), (1, 2))

    def test_what_is_passed_stays(self):
        row = [0, -4, 6]
        self.assertEqual([primitive(row), common_divisor(row), is_primitive(row)], [(0, 2, -3), 2, False])
        self.assertEqual(row, [0, -4, 6])


if __name__ == "__main__":
    unittest.main()
