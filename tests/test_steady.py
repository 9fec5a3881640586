"""Steady trays: turned by one step each time."""

import time
import unittest
from collections import Counter
from fractions import Fraction

from farseen.errors import BadNumber, BadTray, Impossible, Misfit
from farseen.steady import Steady, SteadyOpen, Unsteady, steady, steady_row
from farseen.trays import Tray
from tests.helpers import HUGE, Case, chance, fraction, no_integers, ratio
from tests.plain_trays import are_multiples, some_trays, ways
from tests.test_traysettled import TRAY, TWO, no_trays

SIX = Tray([[0, 2, 1], [0, 1, 2], [0, -1, 1]])
SLOW = Tray([[0, 4, 0], [0, 2, 2], [0, -3, 1]])
TIMES = {2: 1, -2: 2, -1: 3, 0: 4, 1: 6}


def double_of(rows):
    """The k of rows that can be of a steady tray, None if it is not told, False if they are of none."""
    if not any(rows[0]):
        return False
    if len(rows) == 1:
        return None
    if are_multiples(rows[0], rows[1]):
        double = 2 if rows[0] == rows[1] else -2 if rows[0] == tuple(-number for number in rows[1]) else False
    elif len(rows) == 2:
        return None
    else:
        found = ways(rows[0], rows[1], rows[2])
        double = found[1] if found is not None and found[0] == -1 and -2 < found[1] < 2 else False
    if double is False:
        return False
    for first, second, third in zip(rows, rows[1:], rows[2:]):
        if any(double * b - a != d for a, b, d in zip(first, second, third)):
            return False
    return Fraction(double)


def plain_steady(tray):
    for many in range(1, len(tray) + 1):
        told = double_of(tray.rows[:many])
        if told is False:
            return Unsteady(many - 1)
    if told is None:
        return SteadyOpen()
    return Steady(ratio(told), TIMES.get(told))


def rows_on(one, other, double, many):
    """Rows of a steady tray, integers: those two, times what is needed, and further ones."""
    rows = [[Fraction(number) for number in row] for row in (one, other)]
    while len(rows) < many:
        rows.append([double * b - a for a, b in zip(rows[-2], rows[-1])])
    by = double.denominator ** max(0, many - 2)
    return [[int(by * number) for number in row] for row in rows[:many]]


def some_steady(seed, many):
    """Steady trays, and such with a row that is wrong."""
    dice = chance(seed)
    doubles = [Fraction(number) for number in (2, -2, 1, -1, 0, 3)] + [Fraction(1, 2), Fraction(-3, 2), Fraction(5, 3)]
    for _ in range(many):
        size, double = dice.randrange(2, 7), dice.choice(doubles)
        one, other = [[dice.randrange(-3, 4) for _ in range(size)] for _ in range(2)]
        if abs(double) == 2 and dice.random() < 0.8:
            other = [int(double) // 2 * number for number in one]
        rows = rows_on(one, other, double, dice.randrange(1, 9))
        if dice.random() < 0.4:
            at = dice.randrange(len(rows))
            rows[at] = dice.choice([[0] * size, [2 * number for number in rows[at]], [-number for number in rows[at]],
                                    [number + 1 for number in rows[at]]])
        yield Tray([[5] + [5 + number for number in row] for row in rows])


class SteadyTest(Case):

    def test_small(self):
        told = steady(SIX)
        self.assertEqual((told, told.double, told.again, bool(told)), (Steady((1, 1), 6), (1, 1), 6, True))
        self.assertEqual(steady(SLOW), Steady((1, 2), None))
        self.assertEqual(steady(tray=TWO), SteadyOpen())
        self.assertIs(bool(steady(TWO)), True)
        for rows, right in (([[0, 1, 2]], SteadyOpen()), ([[3, 3, 3]], Unsteady(0)), ([[0, 1, 2], [5, 5, 5]], Unsteady(1)),
                            ([[0, 1, 2], [1, 2, 3]], Steady((2, 1), 1)), ([[0, 1, 2], [0, -1, -2]], Steady((-2, 1), 2)),
                            ([[0, 1, 2], [0, -1, -2], [0, 1, 2]], Steady((-2, 1), 2)), ([[0, 1, 2]] * 8, Steady((2, 1), 1)),
                            ([[0, 1, 2], [0, -1, -2], [0, -1, -2]], Unsteady(2)), ([[0, 1, 2], [0, 1, 2], [0, -1, -2]], Unsteady(2)),
                            ([[0, 1, 2], [0, 2, 4]], Unsteady(1)), ([[0, 1, 0], [0, 0, 1], [0, -1, 0]], Steady((0, 1), 4)),
                            ([[0, 1, 0], [0, 0, 1], [0, -1, -1]], Steady((-1, 1), 3)),
                            ([[0, 1, 0], [0, 0, 1], [0, -1, 2]], Unsteady(2)), ([[0, 1, 0], [0, 0, 1], [0, -1, -2]], Unsteady(2)),
                            ([[0, 1, 0], [0, 0, 1], [0, -1, 3]], Unsteady(2)), ([[0, 1, 0], [0, 0, 1], [0, 1, 0]], Unsteady(2)),
                            ([[0, 1, 0], [0, 0, 1], [0, 0, 0]], Unsteady(2)), ([[0, 2, 1], [0, 1, 2], [0, 3, 3]], Unsteady(2)),
                            ([[0, 2, 1], [0, 1, 2], [0, -1, 1], [0, 5, 5]], Unsteady(3)),
                            ([[0, 1, 0, 0], [0, 0, 1, 0], [0, 0, 0, 1]], Unsteady(2)), ([[0, 0, 0], [0, 1, 2]], Unsteady(0))):
            self.assertEqual(steady(Tray(rows)), right, rows)
        self.assertIs(bool(steady(TRAY)), False)
        self.assertEqual(steady(TRAY).number, 2)

    def test_plainly(self):
        seen = Counter()
        for tray in list(some_steady(70, 500)) + list(some_trays(71, 100)):
            told = steady(tray)
            self.assertEqual(told, plain_steady(tray), tray.places)
            seen[told.word if told.word != "unsteady" else told.number] += 1
            if told.word == "steady":
                seen[told.double] += 1
        self.assertTrue(all(seen[key] > 2 for key in ("steady", "steadyopen", 0, 1, 2, 3, 4, 5, (1, 1), (5, 3), (2, 1), (-2, 1))), seen)

    def test_wrong_trays(self):
        self.fails_for(no_trays(), BadTray, ["tray"], steady)


class RowTest(Case):

    def test_small(self):
        self.assertEqual([steady_row(SIX, number) for number in (0, 1, 2, 3, -1, 40)],
                         [((2, 1), (1, 1)), ((1, 1), (2, 1)), ((-1, 1), (1, 1)), ((-2, 1), (-1, 1)), ((1, 1), (-1, 1)),
                          ((-1, 1), (-2, 1))])
        self.assertEqual(steady_row(number=3, tray=SLOW), ((-7, 2), (-3, 2)))
        self.assertEqual(steady_row(Tray([[0, 1, 2], [0, -1, -2]]), -7), ((-1, 1), (-2, 1)))
        self.assertIsInstance(steady_row(SIX, 0), tuple)

    def test_plainly(self):
        for tray in some_steady(72, 60):
            told = steady(tray)
            if told.word != "steady":
                continue
            rows = {0: [Fraction(number) for number in tray.rows[0]], 1: [Fraction(number) for number in tray.rows[1]]}
            double = fraction(told.double)
            for number in range(2, 41):
                rows[number] = [double * b - a for a, b in zip(rows[number - 2], rows[number - 1])]
            for number in range(-1, -41, -1):
                rows[number] = [double * b - a for a, b in zip(rows[number + 2], rows[number + 1])]
            for number in (-40, -39, -3, -2, -1, 0, 1, 2, 7, 39, 40):
                self.assertEqual(steady_row(tray, number), tuple(map(ratio, rows[number])))
            for number, row in enumerate(tray.rows):
                self.assertEqual(steady_row(tray, number), tuple((place, 1) for place in row))
            if told.again is not None:
                for number in range(-40, 41 - told.again):
                    self.assertEqual(rows[number], rows[number + told.again])
                    self.assertFalse(any(rows[number] == rows[number + less] and rows[number + 1] == rows[number + less + 1]
                                         for less in range(1, told.again)))

    def test_greatest(self):
        wide = Tray([[0, 3 * 10 ** 8, 3, -6, 9], [0, 3, 3 * 10 ** 8, 6, 3], [0, 1 - 3 * 10 ** 8, 10 ** 8 - 3, 8, -8]])
        self.assertEqual(steady(wide).parts, ((1, 3), None))
        self.assertEqual(len(self.takes_short(steady_row, wide, 40)), 4)
        self.assertEqual(len(self.takes_short(steady_row, wide, -40)), 4)

    def test_wrong(self):
        self.fails_for(no_trays(), BadTray, ["tray"], lambda tray: steady_row(tray, 0))
        self.fails_for(no_trays(), BadTray, ["tray"], lambda tray: steady_row(tray, None))
        for tray in (SIX, TWO, TRAY):
            for value in no_integers() + [41, -41, HUGE]:
                self.fails(BadNumber, ["number"], steady_row, tray, value)
        for tray in (TWO, TWO.picked([0])):
            self.fails(Misfit, ["kind"], steady_row, tray, 0)
        for rows, number in (([[0, 2, 1], [0, 1, 2], [0, 3, 3]], 2), ([[1, 1, 1]], 0), ([[0, 1, 2], [0, 2, 4]], 1)):
            with self.assertRaises(Impossible) as caught:
                steady_row(Tray(rows), 0)
            self.assertEqual(vars(caught.exception), {"paper": Unsteady(number)})


def far_trays(seed, many):
    """Trays of seven pins whose step comes to numbers of many digits: k is 99991 / 99999, or like it."""
    dice = chance(seed)
    for at in range(many):
        times, by = (99991, 99999) if at % 2 == 0 else dice.choice([(99989, 99991), (-99991, 99998), (3, 99991), (199980, 99991)])
        one = [dice.randrange(-99999999, 10 ** 8) for _ in range(6)]
        step = [dice.randrange(-999, 1000) for _ in range(6)]
        yield Tray([[0] + one, [0] + [by * number for number in step], [0] + [times * b - a for a, b in zip(one, step)]])


class FarRowsTest(Case):

    def rows_plainly(self, tray, double):
        rows = {number: list(map(Fraction, tray.rows[number])) for number in (0, 1)}
        for number in range(2, 41):
            rows[number] = [double * b - a for a, b in zip(rows[number - 2], rows[number - 1])]
        for number in range(-1, -41, -1):
            rows[number] = [double * b - a for a, b in zip(rows[number + 2], rows[number + 1])]
        return rows

    def test_all_rows(self):
        for tray in far_trays(75, 12):
            double = double_of(tray.rows)
            self.assertEqual(steady(tray), Steady(ratio(double), None))
            rows = self.rows_plainly(tray, double)
            for number in range(-40, 41):
                self.assertEqual(steady_row(tray, number), tuple(map(ratio, rows[number])))

    def test_digits(self):
        # The numbers are as long as told: no common divisor makes them short.
        tray = next(far_trays(75, 1))
        self.assertEqual(steady(tray).double, (99991, 99999))
        self.assertGreater(min(by for _, by in steady_row(tray, -40)), 10 ** 150)

    def test_short_time(self):
        # All rows of some hundred trays: 0.15 seconds a tray would be half a minute.
        trays = list(far_trays(76, 200))
        start = time.perf_counter()
        for tray in trays:
            for number in range(-40, 41):
                steady_row(tray, number)
        self.assertLess(time.perf_counter() - start, 10)


if __name__ == "__main__":
    unittest.main()
