"""Which papers on tables and charts are right."""

import itertools
import unittest
from fractions import Fraction

from farseen.charts import Below, Chart, NoRest, Rest, Squares, never_below, rest
from farseen.check_charts import shows_never_below, shows_rank, shows_rest
from farseen.errors import BadChart, BadTable, Misfit
from farseen.tables import Rank, rank
from tests.helpers import (HUGE, ShowsCase, chance, is_plain_ratio, is_plain_row, odd_values, ratio)
from tests.test_charts import CUBE, PINS, gram, some_charts
from tests.test_tables import some_tables

CLASSES = [(Rank, 3), (Squares, 1), (Below, 1), (Rest, 2), (NoRest, 1)]


def tables_for_errors():
    return [value for value in odd_values() if value not in ([[1], [2]],)]


class RankTest(ShowsCase):

    def test_the_rank_alone(self):
        for rows in ([[1, 2], [2, 4]], [[0, 0, 0], [0, 2, 4], [0, 1, 2], [1, 0, 1]], [[0]], [[1, 0], [0, 1]], [[0, 5]]):
            self.shows_no_bent(lambda value: shows_rank(rows, value), rank(rows))
            self.shows_nothing_else(lambda value: shows_rank(rows, value), CLASSES)
        self.assertFalse(shows_rank([[1, 2], [2, 4]], Rank(1, [0], [1])))
        self.assertFalse(shows_rank([[1, 2], [2, 4]], Rank(1, [1], [0])))

    def test_many(self):
        for table in some_tables(40, 60):
            right = rank(table)
            for many in range(4):
                for rows in itertools.combinations(range(len(table)), many):
                    value = Rank(many, rows, right.columns)
                    self.assertIs(shows_rank(table, value), value == right)

    def test_errors_first(self):
        for value in (Rank(0, (), ()), None):
            self.fails_for(tables_for_errors(), BadTable, ["rows"], lambda rows: shows_rank(rows, value))


class NeverBelowTest(ShowsCase):

    def is_squares(self, chart, parts):
        """Whether these are the parts of a right Squares, with fractions."""
        size = len(chart.rows)
        total = [[Fraction(0)] * size for _ in range(size)]
        if not isinstance(parts[0], tuple):
            return False
        for term in parts[0]:
            if not isinstance(term, tuple) or len(term) != 2 or not is_plain_ratio(term[0]) or term[0][0] <= 0:
                return False
            if not is_plain_row(term[1], size) or not any(term[1]):
                return False
            part = Fraction(*term[0])
            total = [[total[a][b] + part * term[1][a] * term[1][b] for b in range(size)] for a in range(size)]
        return total == [[Fraction(number, chart.by) for number in row] for row in chart.rows]

    def is_below(self, chart, parts):
        size = len(chart.rows)
        if not is_plain_row(parts[0], size):
            return False
        return sum(parts[0][a] * parts[0][b] * chart.rows[a][b] for a in range(size) for b in range(size)) < 0

    def test_squares(self):
        for chart in (Chart([[28, 26], [26, 28]], 3), Chart(CUBE), Chart([[1, 1], [1, 1]]), Chart(gram(PINS[:4]), 6)):
            told = never_below(chart)
            self.shows_no_bent(lambda value: shows_never_below(chart, value), told, lambda parts: self.is_squares(chart, parts))
            self.shows(lambda value: shows_never_below(chart, value), Squares(told.terms[::-1]))
            self.shows_nothing_else(lambda value: shows_never_below(chart, value), CLASSES)

    def test_any_terms(self):
        chart = Chart([[28, 26], [26, 28]], 3)
        for terms in ([((1, 21), (14, 13)), ((9, 7), (0, 1))], [((9, 7), (0, -1)), ((1, 21), (-14, -13))],
                      [((26, 3), (1, 1)), ((1, 3), (1, 0)), ((1, 3), (1, 0)), ((2, 3), (0, 1))],
                      [((1, 84), (28, 26)), ((9, 7), (0, 1))], [((13, 3), (1, 1)), ((13, 3), (-1, -1)), ((2, 3), (1, 0)), ((1, 6), (0, 2))]):
            self.assertTrue(self.is_squares(chart, (tuple(terms),)))
            self.shows(lambda value: shows_never_below(chart, value), Squares(terms))
        for terms in ([], [((1, 21), (14, 13))], [((1, 21), (14, 13)), ((9, 7), (0, 1)), ((1, 1), (0, 0))],
                      [((2, 42), (14, 13)), ((9, 7), (0, 1))], [((1, 21), (14, 13)), ((9, 7), (0, 1)), ((0, 1), (1, 0))],
                      [((1, 21), (14, 13)), ((9, 7), (0, 1)), ((1, 1), (1, 0)), ((-1, 1), (1, 0))],
                      [((1, 21), (14, 13, 0)), ((9, 7), (0, 1, 0))]):
            self.shows_not(lambda value: shows_never_below(chart, value), Squares(terms))

    def test_nothing(self):
        zeros = Chart([[0, 0], [0, 0]])
        self.shows(lambda value: shows_never_below(zeros, value), Squares([]))
        self.shows_not(lambda value: shows_never_below(zeros, value), Squares([((1, 1), (0, 0))]))
        self.shows_not(lambda value: shows_never_below(zeros, value), Squares([((1, 1), (1, 0))]))
        self.shows_not(lambda value: shows_never_below(zeros, value), Below([0, 0]))

    def test_below(self):
        for rows in ([[0, 1], [1, 0]], [[0, -1], [-1, 0]], [[1, 2], [2, 1]], [[-1, 0], [0, 1]], [[1, 0, 0], [0, 1, 0], [0, 0, -9]]):
            chart = Chart(rows, 2)
            self.shows_no_bent(lambda value: shows_never_below(chart, value), never_below(chart),
                               lambda parts: self.is_below(chart, parts))
            for row in itertools.product(range(-2, 3), repeat=len(rows)):
                self.assertIs(shows_never_below(chart, Below(row)), self.is_below(chart, (row,)))
        self.shows_not(lambda value: shows_never_below(Chart(CUBE), value), Below([1, -1, 0]))

    def test_all_kinds(self):
        for chart in some_charts(41, 150):
            self.shows(lambda value: shows_never_below(chart, value), never_below(chart))

    def test_greatest(self):
        dice = chance(42)
        places = [[dice.randrange(10 ** 8, 10 ** 9) for _ in range(3)] for _ in range(7)]
        chart = Chart(gram(places))
        told = never_below(chart)
        self.assertIs(self.takes_short(shows_never_below, chart, told), True)
        self.assertIs(shows_never_below(chart, Below([HUGE] * 6)), False)

    def test_errors_first(self):
        for value in (Squares([]), None):
            self.fails_for(odd_values(), BadChart, ["chart"], lambda chart: shows_never_below(chart, value))


class RestTest(ShowsCase):

    def left(self, chart, rows):
        size = len(chart.rows)
        return [[Fraction(chart.rows[a][b], chart.by) - sum(row[a] * row[b] for row in rows) for b in range(size)]
                for a in range(size)]

    def is_amiss(self, chart, rows, parts):
        """Whether these are the parts of a right NoRest."""
        left = self.left(chart, rows)
        pins, size = parts[0], len(left)
        if not isinstance(pins, tuple) or not is_plain_row(pins, len(pins)) or not all(1 <= pin <= size for pin in pins):
            return False
        if len(pins) == 0:
            return not any(any(row) for row in left)
        if len(pins) == 2:
            return pins[0] == pins[1] and left[pins[0] - 1][pins[0] - 1] < 0
        if len(pins) != 4 or pins[0] >= pins[1] or pins[2] >= pins[3]:
            return False
        a, b, d, e = [pin - 1 for pin in pins]
        return left[a][d] * left[b][e] - left[a][e] * left[b][d] != 0

    def test_rests(self):
        chart = Chart([[28, 26], [26, 28]], 3)
        self.shows_no_bent(lambda value: shows_rest(chart, [[2, 1]], value), Rest((1, 3), (4, 5)))
        for value in (Rest((4, 3), (2, (5, 2))), Rest((1, 12), (8, 10)), Rest((1, 3), (-4, -5)), Rest((-1, 3), (4, 5)),
                      Rest((2, 6), (4, 5)), Rest((1, 3), (4, 5, 0)), Rest((1, 3), (4,)), Rest((0, 1), (4, 5)), Rest((1, 3), (0, 0)),
                      NoRest(()), NoRest((1, 1)), NoRest((1, 2, 1, 2))):
            self.shows_not(lambda one: shows_rest(chart, [[2, 1]], one), value)
        self.shows_nothing_else(lambda value: shows_rest(chart, [[2, 1]], value), CLASSES)
        wide = Chart([[16, 8, -4], [8, 4, -2], [-4, -2, 1]], 5)
        self.shows_no_bent(lambda value: shows_rest(wide, [[0, 0, 0]], value), Rest((1, 5), (4, 2, -1)))

    def test_any_pins(self):
        chart = Chart([[28, 26, 1], [26, 28, 0], [1, 0, -2]], 3)
        for rows in ([[1, 0, 0]], [[4, 0, 0]], [[4, 5, 1]], [[0, 0, 0]]):
            told = rest(chart, rows)
            self.shows_no_bent(lambda value: shows_rest(chart, rows, value), told, lambda parts: self.is_amiss(chart, rows, parts))
            for many in (0, 1, 2, 3, 4):
                for pins in itertools.product(range(5 if many < 4 else 4), repeat=many):
                    self.assertIs(shows_rest(chart, rows, NoRest(pins)), self.is_amiss(chart, rows, (pins,)), (rows, pins))

    def test_nothing_left(self):
        chart = Chart([[1, 2], [2, 4]])
        self.shows(lambda value: shows_rest(chart, [[1, 2]], value), NoRest(()))
        for value in (NoRest((1, 1)), NoRest((1, 2, 1, 2)), Rest((1, 1), (1, 2)), Rest((0, 1), (1, 2)), NoRest(None), NoRest(0)):
            self.shows_not(lambda one: shows_rest(chart, [[1, 2]], one), value)
        self.shows_not(lambda value: shows_rest(chart, [[0, 1]], value), NoRest(()))
        self.shows_nothing_else(lambda value: shows_rest(chart, [[0, 2]], value), CLASSES)

    def test_all_kinds(self):
        dice = chance(43)
        for chart in some_charts(44, 200):
            size = len(chart.rows)
            rows = [[dice.choice([0, 0, 1, -1, 2]) for _ in range(size)] for _ in range(dice.randrange(1, 4))]
            told = rest(chart, rows)
            self.shows(lambda value: shows_rest(chart, rows, value), told)
            if isinstance(told, Rest):
                double = Rest(ratio(told.ratio[0], told.ratio[1] * 4), [2 * number for number in told.row])
                self.shows_not(lambda value: shows_rest(chart, rows, value), double)

    def test_errors_first(self):
        chart = Chart(CUBE)
        for value in (NoRest([]), None):
            self.fails_for(odd_values(), BadChart, ["chart"], lambda one: shows_rest(one, [[1, 0, 0]], value))
            self.fails_for(tables_for_errors(), BadTable, ["rows"], lambda rows: shows_rest(chart, rows, value))
            self.fails(BadChart, ["chart"], shows_rest, None, None, value)
            self.fails(Misfit, ["pins"], shows_rest, chart, [[1, 0]], value)


if __name__ == "__main__":
    unittest.main()
