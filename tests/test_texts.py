"""Which items write an integer."""

import unittest

from farseen.errors import BadText
from farseen.texts import items_of, number_at
from tests.helpers import Case, odd_values


class TextsTest(Case):

    def test_items(self):
        for text, right in (("", [""]), (" ", ["", ""]), ("a b", ["a", "b"]), ("a  b", ["a", "", "b"]), ("a\tb", ["a\tb"]),
                            ("a\n", ["a\n"])):
            self.assertEqual(items_of(text), right)

    def test_no_strings(self):
        for value in odd_values():
            if not isinstance(value, str):
                self.fails(BadText, [0, 0], items_of, value)

    def test_numbers(self):
        for item, right in (("0", 0), ("7", 7), ("-7", -7), ("10", 10), ("9" * 60, 10 ** 60 - 1), ("-" + "9" * 60, 1 - 10 ** 60)):
            self.assertEqual(number_at(["x", item], 1, None, None), right)

    def test_no_numbers(self):
        for item in ("", "-", "+7", "-0", "00", "007", "-07", "7-", "--7", "7.0", "1_0", " 7", "7 ", "7\n", "\u0667", "\u00b2",
                     "1" * 61, "-" + "1" * 61, "1" * 10000, "a", "0x1", "/", "\u22127"):
            self.fails(BadText, [0, 1], number_at, ["x", item], 1, None, None)

    def test_bounds(self):
        for item, least, most in (("3", 4, None), ("3", None, 2), ("-1", 0, None), ("5", 6, 7), ("8", 6, 7)):
            self.fails(BadText, [0, 0], number_at, [item], 0, least, most)
        self.assertEqual([number_at(["6", "7"], at, 6, 7) for at in (0, 1)], [6, 7])

    def test_missing(self):
        self.fails(BadText, [0, 2], number_at, ["1", "2"], 2, None, None)


if __name__ == "__main__":
    unittest.main()
