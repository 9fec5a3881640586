"""Which papers on trays are right."""

import itertools
import unittest
from collections import Counter
from fractions import Fraction

from farseen.charts import Chart, Rest
from farseen.check_trays import shows_steady, shows_tray
from farseen.errors import BadTray
from farseen.steady import Steady, SteadyOpen, Unsteady, steady
from farseen.trays import Tray
from farseen.traysettled import (TrayApart, TrayFree, TrayMisfit, TrayNoTriangle, TrayOne, TrayStretch, TrayThin, TrayUnlike,
                                 settle_tray)
from tests.helpers import ShowsCase, chance, odd_values, one_is, plain_determinant, ratio
from tests.plain_trays import are_kin, are_multiples, c_between, is_nones, some_trays, unlike_rows, ways
from tests.test_steady import SIX, SLOW, some_steady
from tests.test_traysettled import FOUR, TRAY, TWO, no_trays, plain_settle

CLASSES = [(TrayFree, 0), (TrayStretch, 2), (TrayOne, 1), (TrayThin, 1), (TrayUnlike, 2), (TrayApart, 4), (TrayNoTriangle, 5),
           (TrayMisfit, 5), (Steady, 2), (SteadyOpen, 0), (Unsteady, 1)]
THREE_PINS = list(itertools.combinations(range(1, 7), 3))


def settles_one(rows):
    """Whether these three rows tell one chart."""
    return len(unlike_rows(rows)) == 3 and not is_nones(rows)


def right_papers(tray):
    """All papers that are right, by trying all lots."""
    rows, many = tray.rows, len(tray)
    found = [TrayThin(at) for at in range(many) if not any(rows[at])]
    for one, other in itertools.combinations(range(many), 2):
        if any(rows[one]) and any(rows[other]) and are_multiples(rows[one], rows[other]) and not are_kin(rows[one], rows[other]):
            found.append(TrayUnlike(one, other))
    for lot in itertools.combinations(range(many), 3):
        one, other, third = [rows[at] for at in lot]
        for pins in itertools.combinations(range(tray.pins - 1), 3):
            if plain_determinant([[rows[at][pin] for pin in pins] for at in lot]) != 0:
                found.append(TrayApart(*lot, tuple(pin + 1 for pin in pins)))
        told = None if are_multiples(one, other) else ways(one, other, third)
        if told is not None and 0 not in told and not -1 < c_between(*told) < 1:
            found.append(TrayNoTriangle(*lot, ratio(told[0]), ratio(told[1])))
    for lot in itertools.combinations(range(many), 4):
        if settles_one([rows[at] for at in lot[:3]]):
            one, other, third, fourth = [rows[at] for at in lot]
            c, told = c_between(*ways(one, other, third)), ways(one, other, fourth)
            if told is not None:
                square = told[0] ** 2 + told[1] ** 2 + 2 * told[0] * told[1] * c
                if square != 1:
                    found.append(TrayMisfit(*lot, ratio(square)))
    told = plain_settle(rows)
    if told.word == "traystretch":
        found += [TrayStretch(*lot) for lot in itertools.combinations(range(many), 2) if not are_kin(rows[lot[0]], rows[lot[1]])]
    elif told:
        found.append(told)
    return found


def possible_papers(tray, right):
    """Papers that could be right, and many that are not."""
    numbers = range(-1, len(tray) + 1)
    found = list(right) + [TrayFree(), TrayOne(Chart([[1] * (tray.pins - 1)] * (tray.pins - 1))), TrayOne(Chart([[1, 0], [0, 1]]))]
    found += [TrayThin(at) for at in numbers]
    for lot in itertools.product(numbers, repeat=2):
        found += [TrayStretch(*lot), TrayUnlike(*lot)]
    found += wrong_reasons(tray.rows)
    for paper in right:
        if paper.word in ("trayapart", "traynotriangle"):
            one, other, third = paper.parts[:3]
            for lot in itertools.permutations((one, other, third)):
                found.append(type(paper)(*lot, *paper.parts[3:]))
            if paper.word == "trayapart":
                found += [TrayApart(*paper.parts[:3], pins) for pins in THREE_PINS + [paper.pins[::-1], (0, 1, 2), paper.pins[:2]]]
        if paper.word == "traymisfit":
            found += [TrayMisfit(*lot, paper.square) for lot in itertools.permutations(paper.parts[:4])]
            found.append(TrayMisfit(*paper.parts[:4], (1, 1)))
    return found


def wrong_reasons(rows):
    """Of each three and four rows the papers that would be right if sides or squares were so."""
    found = []
    for lot in itertools.combinations(range(len(rows)), 3):
        one, other, third = [rows[at] for at in lot]
        told = (Fraction(1), Fraction(1)) if are_multiples(one, other) else ways(one, other, third) or (Fraction(1), Fraction(1, 2))
        found.append(TrayNoTriangle(*lot, ratio(told[0]), ratio(told[1])))
        found.append(TrayNoTriangle(*lot, ratio(4 * told[0]), ratio(told[1])))
        c = c_between(*told) if 0 not in told else Fraction(1, 2)
        for at in range(lot[2] + 1, len(rows)):
            x, y = (3, 4) if are_multiples(one, other) else ways(one, other, rows[at]) or (3, 4)
            found += [TrayMisfit(*lot, at, ratio(x * x + y * y + 2 * x * y * c)), TrayMisfit(*lot, at, ratio(x * x + y * y))]
    return found


class ShowsTrayTest(ShowsCase):

    def check(self, tray):
        right = right_papers(tray)
        for paper in right:
            self.shows(lambda value: shows_tray(tray, value), paper)
        for paper in possible_papers(tray, right):
            self.assertIs(shows_tray(tray, paper), any(one_is(paper, one) for one in right), (tray.places, paper.word, paper.parts))
        return right

    def test_all_lots(self):
        seen = Counter()
        for tray in some_trays(80, 160, 5):
            seen.update({paper.word for paper in self.check(tray)})
            self.shows(lambda value: shows_tray(tray, value), settle_tray(tray))
        self.assertEqual(len(seen), 8, seen)

    def test_bent(self):
        trays = [TRAY, TWO, FOUR, TWO.picked([0])]
        trays += [Tray(rows) for rows in (
            [[1, 1, 1]], [[0, 1, 2], [0, 2, 4], [0, 3, 6]], [[0, 1, 0, 0, 0], [0, 0, 1, 0, 0], [0, 0, 0, 1, 0], [0, 0, 0, 0, 1]],
            [[0, 8, 4], [0, 4, 8], [0, 3, 3]], [[0, 1, 2], [7, 6, 5], [1, 3, 2], [4, 4, 4]])]
        for tray in trays:
            right = right_papers(tray)
            for paper in right:
                self.shows_no_bent(lambda value: shows_tray(tray, value), paper,
                                   lambda parts: any(one_is(type(paper)(*parts), one) for one in right))
            self.shows_nothing_else(lambda value: shows_tray(tray, value), CLASSES, right)

    def test_small(self):
        self.assertIs(shows_tray(TRAY, TrayOne(Chart([[28, 26], [26, 28]], 3))), True)
        self.assertIs(shows_tray(two_three(), TrayStretch(0, 2)), True)
        for tray, paper in ((TWO, TrayStretch(1, 0)), (TWO, TrayStretch(0, 0)), (TRAY, TrayStretch(0, 1)), (TRAY, TrayFree()),
                            (TWO, TrayFree()), (TWO, TrayOne(Chart([[28, 26], [26, 28]], 3))),
                            (TRAY, TrayOne(Chart([[28, 26], [26, 28]]))), (TRAY, TrayOne(Chart([[28, 26, 0], [26, 28, 0], [0, 0, 0]], 3))),
                            (TRAY, TrayOne(((28, 26), (26, 28)))), (TRAY, TrayOne("28 26 / 26 28 : 3")), (FOUR, TrayOne(Chart([[16, 8], [8, 16]]))),
                            (Tray([[1, 1, 1]]), TrayFree()), (Tray([[0, 1, 2], [0, 2, 4]]), TrayStretch(0, 1)),
                            (Tray([[0, 1, 2], [0, 0, 0]]), TrayStretch(0, 1)), (Tray([[0, 1, 2], [0, 0, 0]]), TrayUnlike(0, 1)),
                            (Tray([[0, 1, 2], [0, 1, 2]]), TrayUnlike(0, 1)), (Tray([[0, 1, 2], [0, 0, 0]]), TrayThin(0))):
            self.assertIs(shows_tray(tray, paper), False, (tray.places, paper.word))

    def test_any_fourth_row(self):
        rows = [list(row) for row in FOUR.places[:3]]
        for fourth, square in (([0, 0, 0], (0, 1)), ([0, 8, 0], (4, 1)), ([0, 2, 0], (1, 4)), ([0, 3, 6], (27, 16)), ([0, 8, 8], (4, 1))):
            tray = Tray(rows + [fourth])
            self.shows(lambda value: shows_tray(tray, value), TrayMisfit(0, 1, 2, 3, square))
            self.shows_not(lambda value: shows_tray(tray, value), TrayMisfit(0, 1, 2, 3, (1, 1)))
        for fourth in ([0, 4, 0], [0, -4, -4], [0, 0, 4]):
            self.shows_not(lambda value: shows_tray(Tray(rows + [fourth]), value), TrayMisfit(0, 1, 2, 3, (1, 1)))
        apart = Tray([[0, 4, 0, 0], [0, 0, 4, 0], [0, 4, 4, 0], [0, 0, 0, 1]])
        for square in ((0, 1), (4, 1), (1, 1)):
            self.shows_not(lambda value: shows_tray(apart, value), TrayMisfit(0, 1, 2, 3, square))
        flat = Tray([[0, 2, 0], [0, 0, 2], [0, 1, 1], [0, 1, 0]])
        self.shows_not(lambda value: shows_tray(flat, value), TrayMisfit(0, 1, 2, 3, (1, 4)))

    def test_the_one_chart_alone(self):
        for c in (Fraction(1, 2), Fraction(0), Fraction(-1, 3)):
            wrong = Chart([[16 * c.denominator, 0], [0, 16 * c.denominator]], c.denominator)
            self.assertIs(shows_tray(FOUR.picked([0, 1, 2]), TrayOne(wrong)), False)
        self.assertIs(shows_tray(FOUR.picked([0, 1, 2]), settle_tray(FOUR.picked([0, 1, 2]))), True)
        solid = Chart([[1, 0, 0], [0, 1, 0], [0, 0, 1]])
        self.assertIs(shows_tray(Tray([[0, 1, 0, 0], [0, 0, 1, 0], [0, 0, 0, 1]]), TrayOne(solid)), False)
        self.assertIs(shows_tray(Tray([[0, 1, 0]] * 3), TrayOne(Chart([[1, 0], [0, 1]]))), False)
        self.assertIs(shows_tray(Tray([[0, 1, 0]] * 3), TrayOne(Chart([[2, 0], [0, 0]]))), False)
        self.assertIs(shows_tray(Tray([[0, 1, 0], [0, 2, 0], [0, 3, 0]]), TrayOne(Chart([[16, 0], [0, 0]]))), False)

    def test_greatest(self):
        dice = chance(81)
        wild = Tray([[dice.randrange(-10 ** 9, 10 ** 9) for _ in range(7)] for _ in range(8)])
        self.assertIs(self.takes_short(shows_tray, wild, TrayApart(5, 6, 7, (4, 5, 6))), True)
        self.assertIs(self.takes_short(shows_tray, wild, TrayOne(Chart([[1] * 6] * 6))), False)

    def test_errors_first(self):
        for call in (shows_tray, shows_steady):
            for value in (None, TrayFree(), SteadyOpen()):
                self.fails_for(no_trays(), BadTray, ["tray"], lambda tray: call(tray, value))


def two_three():
    return Tray([[0, 2, 1], [1, -1, 0], [0, 1, 2], [0, -1, -2]])


class ShowsSteadyTest(ShowsCase):

    def test_the_one_alone(self):
        trays = [SIX, SLOW, TWO, TRAY, TWO.picked([0]), Tray([[1, 1, 1]]), Tray([[0, 1, 2], [0, -1, -2]]), Tray([[0, 1, 2]] * 3),
                 Tray([[0, 1, 2], [0, 2, 4]]), SIX.with_row([0, 5, 5])]
        for tray in trays:
            told = steady(tray)
            if told.parts:
                self.shows_no_bent(lambda value: shows_steady(tray, value), told)
            self.shows(lambda value: shows_steady(tray, value), told)
            self.shows_nothing_else(lambda value: shows_steady(tray, value), CLASSES, [told])
            for paper in [SteadyOpen(), Rest((1, 1), 6), Steady((2, 1), 1), Steady((1, 1), None), Steady((0, 1), 4)]:
                self.assertIs(shows_steady(tray, paper), paper == told)
            for number in range(-1, 6):
                self.assertIs(shows_steady(tray, Unsteady(number)), told == Unsteady(number))

    def test_many(self):
        for tray in some_steady(82, 200):
            self.shows(lambda value: shows_steady(tray, value), steady(tray))
        self.assertEqual([shows_steady(SIX, value) for value in odd_values()], [False] * len(odd_values()))


if __name__ == "__main__":
    unittest.main()
