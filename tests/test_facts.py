"""Facts: which can be told, and their texts."""

import itertools
import unittest

from farseen.errors import BadFact, BadNumber, BadText
from farseen.facts import Fact
from tests.helpers import Case, no_integers, odd_values

PINS = tuple("0123456")
# For each near pin the far ones are all others: of equal ones the last item cannot stand.
PATTERNS = [((tuple("01234567"), (near,), tuple(far for far in PINS if far != near)), [3]) for near in PINS]


class FactTest(Case):

    def test_attributes(self):
        for picture, near, far in itertools.product((0, 3, 7), range(7), range(7)):
            if near == far:
                self.fails(BadFact, ["pins"], Fact, picture, near, far)
                continue
            fact = Fact(picture, near, far)
            self.assertEqual((fact.picture, fact.near, fact.far), (picture, near, far))
            self.assertEqual(str(fact), f"{picture} {near} {far}")
            self.assertEqual(Fact.read(str(fact)), fact)
            self.assertEqual(fact.turned(), Fact(picture, far, near))
        self.assertEqual(Fact(far=1, near=0, picture=7).picture, 7)

    def test_equal(self):
        fact = Fact(2, 0, 3)
        self.assertTrue(fact == Fact(2, 0, 3))
        self.assertIs(fact != Fact(2, 0, 3), False)
        for other in (Fact(1, 0, 3), Fact(2, 1, 3), Fact(2, 0, 4), Fact(2, 3, 0)):
            self.assertIs(fact == other, False)
        for value in odd_values() + [(2, 0, 3), [2, 0, 3], "2 0 3"]:
            self.assertIs(fact == value, False)

    def test_errors(self):
        wrong = no_integers() + [-1, 10 ** 20]
        for value in wrong + [8]:
            self.fails(BadNumber, ["picture"], Fact, value, None, None)
            self.fails(BadNumber, ["picture"], Fact, value, 1, 1)
        for value in wrong + [7]:
            self.fails(BadNumber, ["near"], Fact, 0, value, None)
            self.fails(BadNumber, ["near"], Fact, 0, value, value)
            self.fails(BadNumber, ["far"], Fact, 7, 3, value)

    def test_texts(self):
        for text in ("2 0 3", "7 6 5", "0 0 1"):
            self.reads_bent(Fact.read, text, PATTERNS, ("2", "3", "5", "6", "7", "8", "9"))
        for text, item in (("0 3 3", 2), ("0 3 3 4", 2), ("0 0", 2), ("0", 1), ("", 0), ("0 1 2 3", 3), ("0 1 2 ", 3), ("8 1 1", 0), ("1 7 7", 1)):
            self.fails(BadText, [0, item], Fact.read, text)
        for value in odd_values():
            if not isinstance(value, str):
                self.fails(BadText, [0, 0], Fact.read, value)
        self.assertEqual(Fact(1, 2, 3).read("0 1 2"), Fact(0, 1, 2))


if __name__ == "__main__":
    unittest.main()
