"""Sayings: terms, sums, forms, texts."""

import itertools
import unittest
from fractions import Fraction
from unittest import mock

from farseen.charts import Chart
from farseen.errors import BadChart, BadNumber, BadSaying, BadText, Misfit, TooMany
from farseen.sayings import Saying
from tests.helpers import HUGE, Case, chance, fraction, no_integers, no_lists, odd_values, saying_patterns
from tests.test_bodies import some_bodies

WORDS = ["above", "below", "just"]
TERM = (1, (0, 1), (0, 1))
TERMS = [(2, (0, 1), (3, 2)), (-3, (2, 2), (1, 0)), (0, (5, 0), (0, 5))]
CORNER = Chart([[9, 0, 0], [0, 9, 0], [0, 0, 9]])
NO_STEPS = odd_values() + [(0,), (0, 1, 2), (-1, 0), (0, 7), (0, True), (0.0, 1), (0, None), "01", {0: 1, 1: 0}, [[0], 1]]
# The pair 0, 0 is a step.
NO_STEPS = [value for value in NO_STEPS if value != [0, 0] or isinstance(value[0], bool)]
NO_WORDS = [value for value in odd_values() if value not in WORDS] + ["Above", "just ", "sure", ["above"], b"above", ("just",)]


def some_terms(dice, pins, most=4):
    """A few terms of steps between so many pins."""
    return [(dice.randrange(-3, 4), tuple(dice.randrange(pins) for _ in range(2)), tuple(dice.randrange(pins) for _ in range(2)))
            for _ in range(dice.randrange(1, most + 1))]


def some_sayings(seed, many, pins, most=4):
    dice = chance(seed)
    for _ in range(many):
        yield Saying(some_terms(dice, pins, most), dice.choice(WORDS), dice.randrange(-9, 10))


def no_sayings():
    return [value for value in odd_values() if not isinstance(value, Saying)] + [TERMS, "1 0 1 0 1 above 8"]


def plain_product(rows, step, its):
    """What both steps go by these rows, of all pins, multiplied, added up."""
    return sum((row[step[1]] - row[step[0]]) * (row[its[1]] - row[its[0]]) for row in rows)


def plain_sum(rows, terms):
    return sum(many * plain_product(rows, step, its) for many, step, its in terms)


def sum_in_chart(products, terms):
    """The sum by the products of the steps from pin 0, a table without pin 0."""
    def at(a, b):
        return products[a - 1][b - 1] if a and b else 0
    return sum(many * (at(b, d) - at(b, c) - at(a, d) + at(a, c)) for many, (a, b), (c, d) in terms)


def keeps(word, difference):
    return {"above": difference > 0, "below": difference < 0, "just": difference == 0}[word]


class SayingTest(Case):

    def test_attributes(self):
        saying = Saying(TERMS, "above", -7)
        self.assertEqual((saying.terms, saying.word, saying.number, saying.pins), (tuple(TERMS), "above", -7, 6))
        made = Saying(terms=[[5, [6, 6], [0, 0]]], word="just", number=HUGE)
        self.assertEqual((made.terms, made.word, made.number, made.pins), (((5, (6, 6), (0, 0)),), "just", HUGE, 7))
        self.assertEqual([Saying([(1, step, its)], "below", 0).pins for step, its in (((0, 0), (0, 0)), ((0, 1), (3, 2)), ((4, 0), (1, 2)))],
                         [1, 4, 5])
        self.assertEqual([len(Saying([TERM] * many, "below", 0).terms) for many in (1, 11, 12)], [1, 11, 12])
        for value in (made.terms, made.terms[0], made.terms[0][1], made.terms[0][2]):
            self.assertIs(type(value), tuple)

    def test_terms_are_copied(self):
        terms = [[1, [0, 1], [0, 2]]]
        saying = Saying(terms, "above", 0)
        terms[0][1][1] = 5
        terms.append(None)
        self.assertEqual((saying.terms, saying.pins), (((1, (0, 1), (0, 2)),), 3))

    def test_equal(self):
        saying = Saying(TERMS, "above", 1)
        self.assertTrue(saying == Saying([list(term) for term in TERMS], "above", 1))
        self.assertFalse(saying != Saying(tuple(TERMS), "above", 1))
        for terms, word, number in ((TERMS[:2], "above", 1), (TERMS[::-1], "above", 1), (TERMS, "below", 1), (TERMS, "just", 1),
                                    (TERMS, "above", 2), ([TERMS[0], TERMS[1], (0, (0, 5), (5, 0))], "above", 1)):
            self.assertIs(saying == Saying(terms, word, number), False)
        for value in no_sayings():
            self.assertIs(saying == value, False)

    def test_errors(self):
        for value in no_lists() + [[], (), [None], [[]], [TERM[1:]], "1", {0: TERM}, TERM]:
            for word in ("above", None):
                self.fails(BadSaying, ["terms"], Saying, value, word, None)
        wrong = odd_values() + [(1, (0, 1)), (1, (0, 1), (0, 1), (0, 1)), (1, 0, 1, 0, 1)]
        self.is_no_list_of(TERMS, wrong, BadSaying, ["terms"], lambda terms: Saying(terms, "above", 0))
        for value in no_integers():
            self.fails(BadSaying, ["terms"], Saying, [TERM, (value, (0, 1), (0, 1))], "above", 0)
        for value in NO_STEPS:
            self.fails(BadSaying, ["terms"], Saying, [(1, value, (0, 1)), TERM], "above", 0)
            self.fails(BadSaying, ["terms"], Saying, [TERM, (1, (0, 1), value)], None, None)
        for value in NO_WORDS + [mock.ANY]:
            self.fails(BadSaying, ["word"], Saying, [TERM] * 13, value, None)
        for value in no_integers():
            self.fails(BadNumber, ["number"], Saying, [TERM] * 13, "just", value)
        for many in (13, 40):
            self.fails(TooMany, ["terms", 12], Saying, [TERM] * many, "just", 0)
            self.fails(BadSaying, ["terms"], Saying, [TERM] * many + [None], "just", 0)


class SumTest(Case):

    def test_value_and_holds(self):
        dice = chance(401)
        found = set()
        for body in some_bodies(402, 40):
            chart = body.chart()
            by = dice.randrange(1, 6)
            smaller = Chart(chart.rows, by)
            for saying in some_sayings(dice.randrange(1000), 6, body.pins):
                rows = list(zip(*body.places))
                right = Fraction(plain_sum(rows, saying.terms), by)
                self.assertEqual(fraction(saying.value(smaller)), right)
                for number in (saying.number, int(right), int(right) + 1, int(right) - 1):
                    for word in WORDS:
                        told = Saying(saying.terms, word, number).holds(smaller)
                        self.assertIs(told, keeps(word, right - number))
                        found.add((word, told, right == number))
        self.assertEqual(len(found), 8)

    def test_never_below_is_not_asked(self):
        chart = Chart([[0, 5], [5, -7]], 2)
        self.assertEqual(Saying([TERM, (2, (0, 1), (0, 2)), (1, (1, 2), (2, 1))], "just", 0).value(chart), (27, 2))
        self.assertIs(Saying([(1, (0, 2), (0, 2))], "below", -3).holds(chart), True)

    def test_errors(self):
        far = Saying([(0, (0, 5), (0, 0))], "just", 0)
        for call in (far.value, far.holds):
            self.fails_for([value for value in odd_values()] + [CORNER.rows], BadChart, ["chart"], call)
            for size in range(2, 5):
                self.fails(Misfit, ["pins"], call, Chart([[0] * size] * size))
            call(Chart([[0] * 5] * 5))
            call(chart=Chart([[0] * 6] * 6))

    def test_form(self):
        dice = chance(403)
        for pins in range(3, 8):
            for saying in some_sayings(404 + pins, 12, pins, 12):
                form = saying.form(pins)
                self.assertIsInstance(form, Chart)
                self.assertEqual(form.pins, pins)
                for _ in range(4):
                    row = [dice.randrange(-9, 10) for _ in range(pins - 1)]
                    comes = sum(Fraction(form.rows[a][b], form.by) * row[a] * row[b] for a, b in itertools.product(range(pins - 1), repeat=2))
                    self.assertEqual(comes, plain_sum([[0] + row], saying.terms))

    def test_form_of_nothing(self):
        for terms in ([(0, (0, 1), (1, 2))], [(5, (2, 2), (0, 1))], [TERM, (-1, (1, 0), (1, 0))], [(1, (0, 0), (0, 0))]):
            self.assertEqual(Saying(terms, "above", 3).form(4), Chart([[0] * 3] * 3))

    def test_form_errors(self):
        saying = Saying([(1, (0, 1), (0, 4))], "just", 0)
        for value in no_integers() + [0, 2, 8, -3, HUGE]:
            self.fails(BadNumber, ["pins"], saying.form, value)
        for value in (3, 4):
            self.fails(Misfit, ["pins"], saying.form, value)
        self.assertEqual(saying.form(pins=5), Chart([[0, 0, 0, 1], [0, 0, 0, 0], [0, 0, 0, 0], [1, 0, 0, 0]], 2))


class OthersTest(Case):

    def test_others(self):
        for word, others in (("above", ["below", "just"]), ("below", ["above", "just"]), ("just", ["above", "below"])):
            told = Saying(TERMS, word, 4).others()
            self.assertIs(type(told), tuple)
            self.assertEqual(list(told), [Saying(TERMS, other, 4) for other in others])

    def test_times(self):
        for number in (1, -1, 3, -2, HUGE, -HUGE):
            for word, other in (("above", "below"), ("below", "above"), ("just", "just")):
                told = Saying(TERMS, word, 4).times(number)
                right = Saying([(many * number, step, its) for many, step, its in TERMS], word if number > 0 else other, 4 * number)
                self.assertEqual(told, right)
        for saying in some_sayings(410, 60, 4):
            for number in (-3, -1, 2):
                self.assertIs(saying.times(number=number).holds(CORNER), saying.holds(CORNER))
        for value in no_integers() + [0]:
            self.fails(BadNumber, ["number"], Saying(TERMS, "just", 0).times, value)

    def test_longer_and_right(self):
        self.assertEqual(Saying.longer((1, 2), [0, 3]), Saying([(1, (1, 2), (1, 2)), (-1, (0, 3), (0, 3))], "above", 0))
        self.assertEqual(Saying.right([1, 2], (0, 3)), Saying([(1, (1, 2), (0, 3))], "just", 0))
        self.assertEqual(Saying.longer(step=(6, 6), its=(0, 0)).pins, 7)
        self.assertEqual(Saying.right(step=(6, 6), its=(0, 0)).pins, 7)
        for call in (Saying.longer, Saying.right):
            for value in NO_STEPS:
                self.fails(BadSaying, ["step"], call, value, None)
                self.fails(BadSaying, ["its"], call, (0, 6), value)


class TextTest(Case):

    def reads_saying(self, text):
        self.reads_bent(Saying.read, text, saying_patterns(), ["+", "above", "below", "just", "Just", "6", "7", "a b"])

    def test_texts(self):
        self.assertEqual(str(Saying(TERMS, "below", -7)), "2 0 1 3 2 + -3 2 2 1 0 + 0 5 0 0 5 below -7")
        self.assertEqual(Saying.read("2 0 1 3 2 + -3 2 2 1 0 just 0"), Saying(TERMS[:2], "just", 0))
        for saying in some_sayings(420, 60, 7, 12):
            self.assertEqual(Saying.read(str(saying)), saying)
            self.assertEqual(str(Saying.read(text=str(saying))), str(saying))

    def test_bent(self):
        self.reads_saying("1 0 1 0 1 above 8")
        self.reads_saying("-2 6 0 5 1 + 0 3 3 3 3 below -12")
        self.reads_saying("9" * 60 + " 0 1 2 3 just -" + "9" * 60)

    def test_many_terms(self):
        for many in (11, 12, 13, 14):
            self.reads(Saying.read, " + ".join(["1 0 1 0 2"] * many) + " just 5", saying_patterns())
        text = " + ".join(["1 0 1 0 2"] * 12)
        for end in ("", " +", " + 1", " + 1 0 1 0 2 just 0", " just", " just 0 0", " above x", " 0"):
            self.reads(Saying.read, text + end, saying_patterns())

    def test_no_strings(self):
        for value in odd_values():
            if not isinstance(value, str):
                self.fails(BadText, [0, 0], Saying.read, value)

    def test_long_texts(self):
        for text in ("1 0 1 0 1 + " * 1600, "1" * 20000, " " * 20000, "+ " * 9999, "0 " * 9999):
            self.takes_short(self.reads, Saying.read, text, saying_patterns())


if __name__ == "__main__":
    unittest.main()
