"""What trays tell, and why they are none's."""

import itertools
import time
import unittest
from collections import Counter
from fractions import Fraction
from math import lcm

from farseen.charts import Chart, flat
from farseen.errors import BadRatio, BadTray, Misfit, NoPicture
from farseen.trays import Tray
from farseen.traysettled import (TrayApart, TrayFree, TrayMisfit, TrayNoTriangle, TrayOne, TrayStretch, TrayThin, TrayUnlike,
                                 c_of, settle_tray, tray_chart_at, tray_quarrels)
from tests.helpers import HUGE, Case, chance, no_integers, odd_values, plain_determinant, ratio
from tests.plain_trays import (are_multiples, c_between, chart_rows, is_nones, nones_lots, point_at, quarrels, some_trays, unlike_rows,
                               ways)

TRAY = Tray([[0, 2, 1], [5, 6, 7], [0, 3, 3], [1, 0, -1]])
TWO = Tray([[0, 2, 1], [0, 1, 2]])
FOUR = Tray([[0, 4, 0], [0, 0, 4], [0, 4, 4], [0, 3, 6]])


def no_trays():
    return odd_values() + [[[0, 1, 2]], TRAY.places]


def chart_of(rows):
    """A Chart of fractions."""
    by = 1
    for number in [number for row in rows for number in row]:
        by *= number.denominator
    return Chart([[int(number * by) for number in row] for row in rows], by)


def reason_of(rows, lot):
    """The denial of a lot that is none's while no shorter lot of it is."""
    if len(lot) == 1:
        return TrayThin(*lot)
    if len(lot) == 2:
        return TrayUnlike(*lot)
    one, other, third = [rows[at] for at in lot[:3]]
    found = ways(one, other, third)
    if found is None:
        pins = next(pins for pins in itertools.combinations(range(len(one)), 3)
                    if plain_determinant([[rows[at][pin] for pin in pins] for at in lot]) != 0)
        return TrayApart(*lot, tuple(pin + 1 for pin in pins))
    if len(lot) == 3:
        return TrayNoTriangle(*lot, ratio(found[0]), ratio(found[1]))
    c = c_between(*found)
    x, y = ways(one, other, rows[lot[3]])
    return TrayMisfit(*lot, ratio(x * x + y * y + 2 * x * y * c))


def plain_settle(rows):
    """What a tray tells, plainly."""
    lots = nones_lots(rows)
    if lots:
        return reason_of(rows, lots[0])
    unlike = unlike_rows(rows)
    if len(unlike) == 1:
        return TrayFree()
    if len(unlike) == 2:
        return TrayStretch(*unlike)
    one, other, third = [rows[at] for at in unlike[:3]]
    return TrayOne(chart_of(chart_rows(one, other, c_between(*ways(one, other, third)))))


class SettleTest(Case):

    def test_small(self):
        self.assertEqual(settle_tray(TWO), TrayStretch(0, 1))
        self.assertEqual(settle_tray(TRAY), TrayOne(Chart([[28, 26], [26, 28]], 3)))
        self.assertEqual(settle_tray(FOUR), TrayMisfit(0, 1, 2, 3, (27, 16)))
        self.assertEqual(settle_tray(tray=Tray([[0, 8, 4], [0, 4, 8], [0, 3, 3]])), TrayNoTriangle(0, 1, 2, (1, 4), (1, 4)))
        for rows, right in (([[1, 1, 1]], TrayThin(0)), ([[0, 1, 2], [0, 2, 4]], TrayUnlike(0, 1)),
                            ([[0, 1, 2], [0, -2, -4]], TrayUnlike(0, 1)), ([[0, 1, 2], [3, 3, 3]], TrayThin(1)),
                            ([[0, 1, 0, 0], [0, 0, 1, 0], [0, 0, 0, 1]], TrayApart(0, 1, 2, (1, 2, 3))),
                            ([[0, 1, 1, 0, 0], [0, 0, 0, 1, 0], [0, 0, 0, 0, 1]], TrayApart(0, 1, 2, (1, 3, 4))),
                            ([[0, 1, 2], [7, 6, 5]], TrayFree()), ([[0, 1, 2]], TrayFree()), ([[4, 5, 6]] * 8, TrayFree()),
                            ([[0, 1, 2], [0, -1, -2], [0, 2, 1], [0, 1, 2]], TrayStretch(0, 2)),
                            ([[0, 1, 0], [0, 0, 1], [0, 1, 1], [0, 0, 2]], TrayUnlike(1, 3)),
                            ([[0, 1, 0], [0, 0, 1], [0, 2, 1]], TrayNoTriangle(0, 1, 2, (2, 1), (1, 1))),
                            ([[0, 1, 0], [0, 0, 1], [0, -2, 1]], TrayNoTriangle(0, 1, 2, (-2, 1), (1, 1))),
                            ([[0, 2, 0], [0, 0, 2], [0, 1, 1]], TrayNoTriangle(0, 1, 2, (1, 2), (1, 2))),
                            ([[0, 1, 0], [0, 0, 1], [0, 3, 3], [0, 5, 9], [1, 1, 1]], TrayThin(4))):
            self.assertEqual(settle_tray(Tray(rows)), right, rows)

    def test_truth(self):
        self.assertEqual([bool(settle_tray(tray)) for tray in (TWO, TRAY, FOUR, TWO.picked([0]))], [True, True, False, True])

    def test_plainly(self):
        seen = Counter()
        for tray in some_trays(61, 400, 7):
            told = settle_tray(tray)
            self.assertEqual(told, plain_settle(tray.rows), tray.places)
            seen[told.word] += 1
        self.assertEqual(len(seen), 8, seen)
        self.assertGreater(min(seen.values()), 3, seen)

    def test_real_trays(self):
        dice = chance(62)
        turns = [(65, 0), (0, 65), (39, 52), (25, 60), (-52, 39), (56, 33), (-16, 63), (-65, 0), (60, -25)]
        for _ in range(60):
            pins = [(0, 0)] + [(dice.randrange(-5, 6), dice.randrange(-5, 6)) for _ in range(dice.randrange(2, 7))]
            if all(a * d == b * c for (a, b), (c, d) in itertools.combinations(pins, 2)):
                continue
            lot = dice.sample(turns, dice.randrange(1, 9))
            rows = [[x * a + y * b for a, b in pins] for x, y in lot]
            told = settle_tray(Tray(rows))
            if all(any(row) for row in rows):
                self.assertTrue(told)
            if told.word == "trayone":
                right = [[65 * 65 * (a * c + b * d) for c, d in pins[1:]] for a, b in pins[1:]]
                self.assertEqual(told.chart, Chart(right))

    def test_greatest(self):
        dice = chance(63)
        pins = [(0, 0)] + [(dice.randrange(-10 ** 6, 10 ** 6), dice.randrange(-10 ** 6, 10 ** 6)) for _ in range(6)]
        turns = [(65, 0), (0, 65), (39, 52), (25, 60), (-52, 39), (56, 33), (-16, 63), (60, -25)]
        tray = Tray([[x * a + y * b for a, b in pins] for x, y in turns])
        self.assertEqual(self.takes_short(settle_tray, tray).word, "trayone")
        wild = Tray([[dice.randrange(-10 ** 9, 10 ** 9) for _ in range(7)] for _ in range(8)])
        self.assertEqual(len(self.takes_short(tray_quarrels, wild)), 56)
        self.assertEqual(self.takes_short(settle_tray, wild), TrayApart(0, 1, 2, (1, 2, 3)))

    def test_wrong_trays(self):
        for call in (settle_tray, tray_quarrels):
            self.fails_for(no_trays(), BadTray, ["tray"], call)


class QuarrelsTest(Case):

    def test_small(self):
        self.assertEqual(tray_quarrels(FOUR), ((0, 1, 2, 3),))
        for tray in (TRAY, TWO):
            self.assertEqual(tray_quarrels(tray), ())
        self.assertEqual(tray_quarrels(tray=Tray([[0, 1, 2], [1, 1, 1], [0, 2, 4], [0, 3, 6], [5, 5, 5]])), ((1,), (4,), (0, 2), (0, 3), (2, 3)))

    def test_plainly(self):
        seen = Counter()
        for tray in some_trays(64, 300, 6):
            told = tray_quarrels(tray)
            self.assertEqual(told, quarrels(tray.rows), tray.places)
            self.assertEqual(bool(told), is_nones(tray.rows))
            seen.update(len(lot) for lot in told)
        self.assertEqual(sorted(seen), [1, 2, 3, 4], seen)


class ChartAtTest(Case):

    def test_charts(self):
        self.assertEqual(tray_chart_at(TWO, (-1, 2)), Chart([[28, 26], [26, 28]], 3))
        self.assertEqual(tray_chart_at(c=[0, 1], tray=TWO), Chart([[5, 4], [4, 5]]))
        seen = 0
        for tray in some_trays(65, 200, 3):
            if settle_tray(tray).word == "traystretch":
                seen += 1
                told = settle_tray(tray)
                for c in (Fraction(0), Fraction(1, 2), Fraction(-3, 5), Fraction(7, 9)):
                    chart = tray_chart_at(tray, ratio(c))
                    self.assertEqual(chart, chart_of(chart_rows(tray.rows[told.one], tray.rows[told.other], c)))
                    self.assertTrue(flat(chart))
        self.assertGreater(seen, 20)

    def test_wrong(self):
        self.fails_for(no_trays(), BadTray, ["tray"], lambda tray: tray_chart_at(tray, (0, 1)))
        self.fails_for(no_trays(), BadTray, ["tray"], lambda tray: tray_chart_at(tray, None))
        wrong = odd_values() + [(1, 1), (-1, 1), (3, 2), (-3, 2), (2, 4), (0, 2), (1, 0), (True, 2), (1, 2, 3), "12"]
        for tray in (TWO, TRAY, FOUR, TWO.picked([0])):
            self.fails_for(wrong, BadRatio, ["c"], lambda c: tray_chart_at(tray, c))
        for tray in (TRAY, FOUR, TWO.picked([0]), Tray([[1, 1, 1]]), Tray([[0, 1, 2], [0, 2, 4]])):
            self.fails(Misfit, ["kind"], tray_chart_at, tray, (1, 2))


class COfTest(Case):

    def test_small(self):
        self.assertEqual([c_of(TRAY, one, other) for one, other in ((0, 1), (2, 3), (1, 3), (0, 0), (3, 3), (0, 3), (0, 2))],
                         [(-1, 2), (-1, 2), (-1, 1), (1, 1), (1, 1), (1, 2), (1, 2)])
        self.assertEqual(c_of(other=1, one=0, tray=TRAY), (-1, 2))

    def test_real_trays(self):
        dice = chance(66)
        turns = [(65, 0), (0, 65), (39, 52), (25, 60), (-52, 39), (56, 33), (-16, 63), (-65, 0), (60, -25)]
        for _ in range(40):
            pins = [(0, 0), (1, 2), (3, dice.randrange(-4, 4)), (dice.randrange(-4, 4), 1)]
            lot = dice.sample(turns, dice.randrange(4, 9))
            tray = Tray([[x * a + y * b for a, b in pins] for x, y in lot])
            if settle_tray(tray).word == "trayone":
                for at, its in itertools.product(range(len(lot)), repeat=2):
                    right = ratio(lot[at][0] * lot[its][0] + lot[at][1] * lot[its][1], 65 * 65)
                    self.assertEqual(c_of(tray, at, its), right)

    def test_the_chart_is_that_at_c(self):
        for tray in some_trays(67, 200):
            told = settle_tray(tray)
            if told.word == "trayone":
                for at, its in itertools.permutations(range(len(tray)), 2):
                    c = c_of(tray, at, its)
                    if not are_multiples(tray.rows[at], tray.rows[its]):
                        self.assertEqual(chart_of(chart_rows(tray.rows[at], tray.rows[its], Fraction(*c))), told.chart)
                    else:
                        self.assertEqual(c, (1, 1) if tray.rows[at] == tray.rows[its] else (-1, 1))

    def test_wrong(self):
        self.fails_for(no_trays(), BadTray, ["tray"], lambda tray: c_of(tray, 0, 1))
        self.fails_for(no_trays(), BadTray, ["tray"], lambda tray: c_of(tray, None, None))
        for value in no_integers() + [-1, 4, HUGE]:
            self.fails(NoPicture, [value], c_of, TRAY, value, 0)
            self.fails(NoPicture, [value], c_of, TRAY, 0, value)
            self.fails(NoPicture, [value], c_of, TRAY, value, -5)
            self.fails(NoPicture, [value], c_of, FOUR, value, -5)
        for tray in (TWO, FOUR, TWO.picked([0])):
            self.fails(Misfit, ["kind"], c_of, tray, 0, 0)
            self.fails(NoPicture, [7], c_of, tray, 0, 7)


EIGHT = Tray([[-143130, 509210, 137995, 359710, -510380, -621920, -97565], [558228, -235394, 650738, 657686, 494603, 185600, 483071],
              [454854, -62134, 618299, 688526, 292204, -14688, 401211], [403962, 7774, 591877, 685594, 205712, -93600, 360009],
              [510150, -147710, 640475, 680390, 394400, 83360, 445415], [11994, 401926, 290389, 493186, -337156, -516768, 34221],
              [187548, 249746, 441958, 608026, -114827, -358400, 181561], [252876, 184054, 492206, 640094, -24349, -287872, 235859]])


def eight_rows(seed, many):
    """Trays of eight rows of seven pins, no two kin, all of one chart; some with a row moved by one, or of another chart."""
    dice = chance(seed)
    made = 0
    while made < many:
        c = Fraction(dice.randrange(-9, 10), 10)
        one, other = [[dice.randrange(-99, 100) for _ in range(6)] for _ in range(2)]
        sums = [(Fraction(1), Fraction(0)), (Fraction(0), Fraction(1))]
        sums += [point_at(c, Fraction(dice.randrange(-9, 10), dice.randrange(1, 9))) for _ in range(6)]
        by = lcm(*[part.denominator for two in sums for part in two])
        rows = [[int(by * (x * a + y * b)) for a, b in zip(one, other)] for x, y in sums]
        if max(abs(number) for row in rows for number in row) < 10 ** 9 and len(unlike_rows(rows)) == 8:
            made += 1
            if made % 4 == 0:
                rows[dice.randrange(8)][dice.randrange(6)] += 1
            if made % 4 == 1:
                at = dice.randrange(8)
                rows[at] = [a + b for a, b in zip(rows[at - 1], rows[at - 2])]
            yield Tray([[0] + row for row in rows])


class EightRowsTest(Case):

    def test_plainly(self):
        found = Counter()
        for tray in [EIGHT] + list(eight_rows(85, 11)):
            told = settle_tray(tray)
            self.assertEqual((told, type(told)), (plain_settle(tray.rows), type(plain_settle(tray.rows))))
            self.assertEqual(tray_quarrels(tray), quarrels(tray.rows))
            found[told.word] += 1
            if told.word != "trayone":
                self.fails(Misfit, ["kind"], c_of, tray, 0, 7)
                continue
            for a, b in itertools.product(range(8), repeat=2):
                third = next(at for at in range(8) if at not in (a, b))
                right = 1 if a == b else c_between(*ways(tray.rows[a], tray.rows[b], tray.rows[third]))
                self.assertEqual(c_of(tray, a, b), ratio(right))
        self.assertTrue(found["trayone"] > 3 and len(found) > 2, found)
        self.assertEqual(tray_quarrels(EIGHT), ())

    def test_short_time(self):
        # All c between any two rows, again and again: at 6 milliseconds each it would be half a minute.
        trays = [EIGHT] + [tray for tray in eight_rows(86, 12) if settle_tray(tray).word == "trayone"]
        start = time.perf_counter()
        for at in range(70):
            tray = trays[at % len(trays)]
            for a, b in itertools.product(range(8), repeat=2):
                c_of(tray, a, b)
            settle_tray(tray)
            tray_quarrels(tray)
        self.assertLess(time.perf_counter() - start, 10)


if __name__ == "__main__":
    unittest.main()
