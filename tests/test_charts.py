"""Charts: products of steps, rows below 0, what is left without the products of rows."""

import itertools
import unittest
from fractions import Fraction

from farseen.charts import Below, Chart, NoRest, Rest, Squares, flat, never_below, rest, solid
from farseen.errors import BadChart, BadTable, Misfit, NoPin, Twice
from tests.helpers import (HUGE, Case, chance, fraction, no_integers, odd_values, plain_determinant, plain_rank,
                           primitive_of, ratio)

CUBE = [[9, 0, 0], [0, 9, 0], [0, 0, 9]]
PINS = [(0, 0, 0), (1, 2, 3), (0, -1, 4), (5, 0, 1), (2, 2, -2), (-3, 1, 0), (4, 4, 1)]


def gram(places, by=1):
    """The rows of the chart of pins in space, with no step left out but from pin 0."""
    steps = [[a - b for a, b in zip(place, places[0])] for place in places[1:]]
    return [[by * sum(a * b for a, b in zip(step, its)) for its in steps] for step in steps]


def some_charts(seed, many):
    """Charts of all kinds: sums of squares of few rows, and such with a row taken off."""
    dice = chance(seed)
    for _ in range(many):
        size = dice.randrange(2, 7)
        rows = [[0] * size for _ in range(size)]
        for _ in range(dice.randrange(0, 5)):
            row = [dice.choice([0, 0, 1, -1, 2, 3]) for _ in range(size)]
            sign = dice.choice([1, 1, 1, 2, 5, -1])
            rows = [[rows[a][b] + sign * row[a] * row[b] for b in range(size)] for a in range(size)]
        yield Chart(rows, dice.choice([1, 2, 3, 12]))


def is_below(chart):
    """Whether some row comes below 0: whether some determinant of equal rows and columns is below 0."""
    size = len(chart.rows)
    return any(plain_determinant([[chart.rows[a][b] for b in lot] for a in lot]) < 0
               for many in range(1, size + 1) for lot in itertools.combinations(range(size), many))


class ChartTest(Case):

    def test_attributes(self):
        for rows, by, right, its in (
                ([[4, 2], [2, 6]], 2, ((2, 1), (1, 3)), 1), ([[0, 0], [0, 0]], 7, ((0, 0), (0, 0)), 1),
                ([[4, 2], [2, 6]], 3, ((4, 2), (2, 6)), 3), (((-2, 4), (4, 0)), 6, ((-1, 2), (2, 0)), 3),
                ([[HUGE, 0], [0, 0]], HUGE, ((1, 0), (0, 0)), 1)):
            chart = Chart(rows, by)
            self.assertEqual((chart.rows, chart.by, chart.pins), (right, its, 3))
        self.assertEqual(Chart(by=2, rows=[[2, 0], [0, 2]]).by, 1)
        self.assertEqual((Chart(CUBE).by, Chart(CUBE).pins, Chart([[1] * 6] * 6).pins), (1, 4, 7))

    def test_equal(self):
        self.assertTrue(Chart([[4, 2], [2, 6]], 2) == Chart(((2, 1), (1, 3))))
        self.assertFalse(Chart([[4, 2], [2, 6]], 2) != Chart(((2, 1), (1, 3))))
        for other in (Chart([[2, 1], [1, 4]]), Chart([[2, 1], [1, 3]], 2), Chart([[4, 2], [2, 6]]), Chart(CUBE)):
            self.assertIs(Chart([[2, 1], [1, 3]]) == other, False)
        for value in odd_values() + [((2, 1), (1, 3))]:
            self.assertIs(Chart([[2, 1], [1, 3]]) == value, False)

    def test_text(self):
        self.assertEqual(str(Chart([[28, 26], [26, 28]], 3)), "28 26 / 26 28 : 3")
        self.assertEqual(str(Chart([[0, -1, 0], [-1, 0, 0], [0, 0, 5]], 1)), "0 -1 0 / -1 0 0 / 0 0 5 : 1")

    def test_wrong_rows(self):
        self.fails_for(odd_values(), BadChart, ["rows"], Chart)
        for rows in ([[1]], [[1, 2]], [[1, 2], [2, 1], [3, 3]], [[1, 2], [3, 4]], [[1, 2, 3], [2, 1, 3], [3, 3]],
                     [[1, 0, 0], [0, 1, 1], [0, 0, 1]], [[1] * 7] * 7, [[1, 2], [2]], [[1, 2], (2, True)], [[1, 2], "21"]):
            self.fails(BadChart, ["rows"], Chart, rows)
            self.fails(BadChart, ["rows"], Chart, rows, 0)
        for a in range(3):
            for b in range(3):
                for value in no_integers():
                    rows = [list(row) for row in CUBE]
                    rows[a][b] = rows[b][a] = value
                    self.fails(BadChart, ["rows"], Chart, rows)
                rows = [list(row) for row in CUBE]
                rows[a][b] += 1
                if a != b:
                    self.fails(BadChart, ["rows"], Chart, rows)

    def test_wrong_by(self):
        for value in no_integers() + [0, -1, -HUGE]:
            self.fails(BadChart, ["by"], Chart, CUBE, value)
            self.fails(BadChart, ["by"], Chart, by=value, rows=CUBE)

    def test_copied(self):
        rows = [[4, 2], [2, 6]]
        chart = Chart(rows)
        rows[0][0] = 9
        self.assertEqual(chart.rows, ((4, 2), (2, 6)))
        rows = [[4, 2], [2, 6]]
        Chart(rows, 2)
        self.assertEqual(rows, [[4, 2], [2, 6]])


class ProductTest(Case):

    def setUp(self):
        self.chart = Chart(gram(PINS), 6)

    def test_products_of_steps(self):
        for a, b, c, d in itertools.product(range(0, 7, 2), range(7), range(0, 7, 3), range(7)):
            right = ratio(sum((PINS[b][k] - PINS[a][k]) * (PINS[d][k] - PINS[c][k]) for k in range(3)), 6)
            self.assertEqual(self.chart.product((a, b), [c, d]), right)
        self.assertEqual(self.chart.square([2, 2]), (0, 1))

    def test_squares(self):
        for a, b in itertools.product(range(7), repeat=2):
            right = ratio(sum((PINS[b][k] - PINS[a][k]) ** 2 for k in range(3)), 6)
            self.assertEqual(self.chart.square((a, b)), right)

    def test_wrong_steps(self):
        wrong = [value for value in odd_values() if value not in ([0, 0], [[1], [2]])]
        wrong += [(0,), (0, 1, 2), (), {0: 1, 2: 3}, "01"]
        wrong = [value for value in wrong if not (isinstance(value, list) and len(value) == 2)]
        for value in wrong:
            self.fails(NoPin, [value], self.chart.square, value)
            self.fails(NoPin, [value], self.chart.product, value, (0, 1))
            self.fails(NoPin, [value], self.chart.product, (0, 1), value)
            self.fails(NoPin, [value], self.chart.product, value, None)

    def test_wrong_pins_of_steps(self):
        for value in no_integers() + [-1, 7, HUGE]:
            self.fails(NoPin, [value], self.chart.square, (value, 0))
            self.fails(NoPin, [value], self.chart.square, [0, value])
            self.fails(NoPin, [value], self.chart.product, (value, -2), (-3, 0))
            self.fails(NoPin, [value], self.chart.product, (0, 1), (1, value))
        self.fails(NoPin, [3], Chart([[1, 0], [0, 1]]).square, (0, 3))
        self.fails(NoPin, [-3], self.chart.product, (0, -3), (-2, 0))

    def test_within(self):
        self.assertEqual(self.chart.within([0, 1, 2, 3, 4, 5, 6]), self.chart)
        for lot in ([3, 1, 5], (6, 5, 4, 3, 2, 1, 0), [0, 2, 4, 6], [1, 2, 3]):
            self.assertEqual(self.chart.within(lot), Chart(gram([PINS[pin] for pin in lot]), 6))

    def test_volume(self):
        for lot in itertools.permutations((0, 2, 5, 6)):
            right = ratio(plain_determinant(gram([PINS[pin] for pin in lot])), 216)
            self.assertEqual(self.chart.volume(lot), right)
        self.assertEqual(Chart(CUBE).volume([0, 1, 2, 3]), (729, 1))
        self.assertEqual(Chart([[1, 1, 1], [1, 1, 1], [1, 1, 1]]).volume([1, 0, 2, 3]), (0, 1))

    def test_wrong_lots(self):
        for call, many in ((self.chart.within, 3), (self.chart.volume, 4)):
            for value in odd_values():
                if not isinstance(value, (list, tuple)):
                    self.fails(NoPin, [value], call, value)
            for at in range(many):
                for value in no_integers() + [-1, 7, HUGE]:
                    lot = [0, 0, 0, 0][:many]
                    lot[at] = value
                    self.fails(NoPin, [value], call, lot)
            self.fails(Twice, [2], call, [1, 2, 2])
            self.fails(Twice, [1], call, [1, 2, 1, 2])
            self.fails(Misfit, ["pins"], call, [])
            self.fails(Misfit, ["pins"], call, (1, 2))
            self.fails(NoPin, [9], call, [0, 0, 9])
        self.fails(Misfit, ["pins"], self.chart.volume, [0, 1, 2])
        self.fails(Misfit, ["pins"], self.chart.volume, [0, 1, 2, 3, 4])
        self.assertEqual(self.chart.within([0, 1, 2]).pins, 3)


class NeverBelowTest(Case):

    def check(self, chart):
        told = never_below(chart)
        if is_below(chart):
            self.assertIsInstance(told, Below)
            row = told.row
            self.assertEqual(len(row), len(chart.rows))
            self.assertLess(sum(a * b * chart.rows[i][j] for i, a in enumerate(row) for j, b in enumerate(row)), 0)
            return
        self.assertIsInstance(told, Squares)
        self.assertEqual(len(told.terms), plain_rank([list(row) for row in chart.rows]))
        total = [[Fraction(0)] * len(chart.rows) for _ in chart.rows]
        for part, row in told.terms:
            self.assertGreater(fraction(part), 0)
            self.assertTrue(any(row))
            total = [[total[a][b] + fraction(part) * row[a] * row[b] for b in range(len(row))] for a in range(len(row))]
        self.assertEqual(total, [[Fraction(number, chart.by) for number in row] for row in chart.rows])

    def test_small(self):
        self.assertEqual(never_below(Chart([[0, 0], [0, 0]])), Squares([]))
        for rows in ([[0, 1], [1, 0]], [[0, -1], [-1, 0]], [[-1, 0], [0, 1]], [[1, 0], [0, -1]], [[1, 2], [2, 1]],
                     [[1, 1], [1, 1]], [[0, 0], [0, 3]], [[0, 1], [1, 5]], [[5, 1], [1, 0]], [[28, 26], [26, 28]],
                     [[1, 1, 0], [1, 1, 1], [0, 1, 1]], [[0, 0, 1], [0, 1, 0], [1, 0, 0]], CUBE,
                     [[1, 1, 1], [1, 1, 2], [1, 2, 1]], [[4, 2, 2], [2, 1, 0], [2, 0, 1]]):
            self.check(Chart(rows, 3))

    def test_of_all_kinds(self):
        for chart in some_charts(8, 300):
            self.check(chart)

    def test_kinds(self):
        for chart in list(some_charts(9, 300)) + [Chart(gram(PINS)), Chart(CUBE)]:
            many = None if is_below(chart) else plain_rank([list(row) for row in chart.rows])
            self.assertIs(solid(chart), many == 3)
            self.assertIs(flat(chart), many == 2)

    def test_greatest(self):
        dice = chance(10)
        places = [[dice.randrange(10 ** 8, 10 ** 9) for _ in range(3)] for _ in range(7)]
        self.assertEqual(len(self.takes_short(never_below, Chart(gram(places), 999999937)).terms), 3)
        rows = [[dice.randrange(10 ** 8, 10 ** 9) for _ in range(6)] for _ in range(6)]
        self.check(Chart([[rows[max(a, b)][min(a, b)] for b in range(6)] for a in range(6)], 999999937))
        self.assertEqual(never_below(Chart(gram(places))), never_below(Chart(gram(places))))

    def test_wrong_charts(self):
        for call in (never_below, solid, flat):
            self.fails_for(odd_values() + [((1, 0), (0, 1))], BadChart, ["chart"], call)


class RestTest(Case):

    def plain_rest(self, chart, rows):
        """What is told, by trying all pins."""
        size = len(chart.rows)
        left = [[Fraction(chart.rows[a][b], chart.by) - sum(row[a] * row[b] for row in rows) for b in range(size)]
                for a in range(size)]
        if not any(any(row) for row in left):
            return NoRest(())
        for a in range(size):
            if left[a][a] < 0:
                return NoRest((a + 1, a + 1))
        for a, b, d, e in itertools.product(range(size), repeat=4):
            if a < b and d < e and left[a][d] * left[b][e] != left[a][e] * left[b][d]:
                return NoRest((a + 1, b + 1, d + 1, e + 1))
        at = [a for a in range(size) if left[a][a]][0]
        by = left[at][at].denominator
        for number in left[at]:
            by *= number.denominator
        row = primitive_of([int(number * by) for number in left[at]])
        return Rest(ratio(left[at][at] / row[at] ** 2), row)

    def test_small(self):
        chart = Chart([[28, 26], [26, 28]], 3)
        for rows in ([[2, 1]], [[4, 0]], [[1, 0]], [[0, 4]], [[0, 0]], [[1, 2], [2, 1]], [[3, 3]], [[-2, -1]]):
            self.assertEqual(rest(chart, rows), self.plain_rest(chart, rows))
        self.assertEqual(rest(Chart([[1, 2], [2, 4]]), [[1, 2]]), NoRest(()))
        self.assertEqual(rest(Chart([[1, 2], [2, 4]]), [[0, 0]]), Rest((1, 1), (1, 2)))
        self.assertEqual(rest(Chart([[1, 0], [0, 0]]), [[0, 1]]), NoRest((2, 2)))
        self.assertEqual(rest(Chart([[0, 1], [1, 0]]), [[0, 0]]), NoRest((1, 2, 1, 2)))
        self.assertEqual(rest(Chart([[4, -6], [-6, 9]], 5), ((0, 0),)), Rest((1, 5), (2, -3)))

    def test_of_all_kinds(self):
        dice = chance(11)
        for chart in some_charts(12, 250):
            size = len(chart.rows)
            rows = [[dice.choice([0, 0, 1, -1, 2]) for _ in range(size)] for _ in range(dice.randrange(1, 4))]
            self.assertEqual(rest(chart, rows), self.plain_rest(chart, rows))

    def test_depths_of_bodies(self):
        dice = chance(13)
        for _ in range(60):
            places = [[dice.randrange(-4, 5) for _ in range(3)] for _ in range(dice.randrange(4, 8))]
            rows = [[place[k] - places[0][k] for place in places[1:]] for k in range(3)]
            told = rest(Chart(gram(places)), rows[:2])
            if any(rows[2]):
                row = primitive_of(rows[2])
                self.assertEqual(told, Rest(ratio(sum(z * z for z in rows[2]), sum(z * z for z in row)), row))
            else:
                self.assertEqual(told, NoRest([]))

    def test_greatest(self):
        dice = chance(14)
        places = [[dice.randrange(-10 ** 9, 10 ** 9) for _ in range(3)] for _ in range(7)]
        rows = [[place[k] - places[0][k] for place in places[1:]] for k in range(3)]
        self.assertEqual(self.takes_short(rest, Chart(gram(places)), rows[1:]).row, primitive_of(rows[0]))

    def test_wrong(self):
        chart = Chart(CUBE)
        self.fails_for(odd_values(), BadChart, ["chart"], lambda value: rest(value, [[1, 0, 0]]))
        self.fails_for(odd_values(), BadChart, ["chart"], lambda value: rest(value, None))
        tables = [value for value in odd_values() if value not in ([[1], [2]],)]
        self.fails_for(tables, BadTable, ["rows"], lambda value: rest(chart, value))
        for rows in ([[1, 2]], [[1, 2, 3, 4]], [[1]], [[1], [2]], [[1] * 7]):
            self.fails(Misfit, ["pins"], rest, chart, rows)
        self.assertTrue(rest(rows=[[3, 0, 0], [0, 3, 0]], chart=chart))
        rows = [[3, 0, 0], [0, 3, 0]]
        rest(chart, rows)
        self.assertEqual(rows, [[3, 0, 0], [0, 3, 0]])


if __name__ == "__main__":
    unittest.main()
