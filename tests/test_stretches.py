"""Charts and depths of two pictures, what they are at least, and the papers on two pictures."""

import itertools
import unittest
from collections import Counter
from fractions import Fraction

from farseen.albums import Album
from farseen.axes import Apart, Axis, SamePlane, Thin, Unalike, Unequal, axis
from farseen.bodies import Body
from farseen.charts import Chart, Rest, rest, solid
from farseen.errors import BadChart, BadPicture, BadRatio, Impossible, Misfit, NoPin, Twice
from farseen.leasts import Least, Sole, least_square, least_volume
from farseen.pictures import Picture
from farseen.stretches import Along, Turn, Unfit, along, chart_at, depths_at, turn
from tests.helpers import HUGE, LIMIT, Case, chance, fraction, no_integers, odd_values, plain_determinant, ratio
from tests.plain_albums import (across_of, body_albums, chart_of, chart_rows_at, direction_sum, leaves_rest, mixed_albums, plain_axis,
                                square_of)
from tests.test_albums import FIVE, no_pictures
from tests.test_axes import ONE, OTHER

CORNER = Chart([[9, 0, 0], [0, 9, 0], [0, 0, 9]])
LINE = Picture([[0, 0], [1, 2], [2, 4], [3, 6]])
# With ONE these are Thin, SamePlane, Unalike, Unequal.
NO_AXIS = [LINE, Picture([[0, 0], [0, 3], [3, 0], [0, 0]]), Picture([[0, 0], [6, 0], [0, 3], [0, 0]]), Picture([[0, 0], [2, 2], [-1, 3], [2, -1]])]
FAR = [Picture([[0, 0], [1, 0], [0, 1], [0, 0], [0, 0]]), Picture([[0, 0], [0, 0], [0, 0], [1, 0], [0, 1]])]
SOME_C = [(0, 1), (2, 3), (-2, 3), (1, 7), (-998, 999), [1, 2], (999999998, 999999999)]


def no_c():
    """Values that are no ratios between -1 and 1."""
    wrong = odd_values() + [(1, 1), (-1, 1), (3, 2), (2, 4), (0, 2), (1, -2), (0, 0), (1, 0), (True, 2), (1, 2, 3), (HUGE, HUGE + 1, 1)]
    return [value for value in wrong if value not in ((0, 1), [0, 1])]


def some_pairs(seed, many):
    """Pairs of pictures that have an axis with equal squares."""
    found = 0
    for album in mixed_albums(seed, many):
        for one, other in itertools.combinations(album.pictures, 2):
            if plain_axis(one, other)[0] is Axis:
                found += 1
                if found > many:
                    return
                yield one, other


def value_on(row, step):
    row = [0] + list(row)
    return row[step[1]] - row[step[0]]


class AlongTest(Case):

    def test_small(self):
        self.assertEqual(along(ONE, OTHER), Along(5, (6, 3, 0), (-3, 6, 0), (-2, 4, -5)))
        self.assertEqual(along(other=ONE, one=OTHER), Along(5, (6, 3, 0), (-2, 4, -5), (-3, 6, 0)))
        self.assertIs(bool(along(ONE, OTHER)), True)

    def test_by_directions(self):
        for one, other in some_pairs(1, 60):
            mine, its = plain_axis(one, other)[1]
            self.assertEqual(along(one, other), Along(square_of(mine), direction_sum(one, mine), across_of(one, mine), across_of(other, its)))
            self.assertEqual(along(one, other).row, tuple(direction_sum(other, its)))


class ChartAtTest(Case):

    def test_small(self):
        self.assertEqual(chart_at(ONE, OTHER, (2, 3)), CORNER)
        self.assertEqual(str(chart_at(ONE, OTHER, [0, 1])), "49 -8 10 / -8 61 -20 / 10 -20 25 : 5")

    def test_by_the_formula(self):
        for one, other in some_pairs(2, 60):
            for c in SOME_C:
                chart = chart_at(one, other, c)
                self.assertEqual(chart, chart_of(chart_rows_at(one, other, Fraction(*c))))

    def test_a_body_has_both(self):
        for one, other in some_pairs(3, 25):
            charts = [chart_at(one, other, c) for c in SOME_C]
            for chart in charts:
                self.assertTrue(solid(chart))
                rows = [[Fraction(number, chart.by) for number in row] for row in chart.rows]
                self.assertTrue(leaves_rest(rows, one) and leaves_rest(rows, other))
            self.assertTrue(all(mine != its for mine, its in itertools.combinations(charts, 2)))

    def test_the_chart_of_the_body(self):
        found = 0
        for body, scale, album in body_albums(4, 40):
            chart = Chart([[number * scale * scale for number in row] for row in body.chart().rows])
            for one, other in itertools.combinations(album.pictures, 2):
                if plain_axis(one, other)[0] is Axis:
                    found += 1
                    paper = turn(one, other, chart)
                    self.assertEqual(chart_at(one, other, paper.c), chart)
        self.assertGreater(found, 40)

    def test_exchanged_moved_turned_mirrored(self):
        for one, other in some_pairs(5, 25):
            for c in ((0, 1), (2, 3), (-3, 8)):
                chart = chart_at(one, other, c)
                self.assertEqual(chart_at(other, one, c), chart)
                self.assertEqual(chart_at(one.shifted(3, -8), other.turned(), c), chart)
                self.assertEqual(chart_at(one.mirrored(), other, (-c[0], c[1])), chart)

    def test_depths(self):
        self.assertEqual([depths_at(ONE, OTHER, c).parts for c in ((2, 3), (0, 1))], [((9, 1), (0, 0, 1)), ((1, 5), (2, -4, 5))])
        for one, other in some_pairs(6, 40):
            for c in SOME_C:
                told = depths_at(one, other, c)
                self.assertEqual(told, rest(chart_at(one, other, c), one.rows))
                self.assertIsInstance(told, Rest)

    def test_great_numbers(self):
        dice = chance(7)
        body = Body([[dice.randrange(-10 ** 6, 10 ** 6) for _ in range(3)] for _ in range(7)])
        one, other = body.album([(1, 1, 0, 0), (1, 2, 3, 1)]).pictures
        self.assertLess(10 ** 7, max(abs(number) for place in one.places for number in place))
        for c in ((0, 1), (123456788, 123456789)):
            chart = self.takes_short(chart_at, one, other, c)
            self.assertEqual(chart, chart_of(chart_rows_at(one, other, Fraction(*c))))
            self.assertEqual(turn(one, other, chart), Turn(c))
        edge = Picture([[-LIMIT, LIMIT], [LIMIT, LIMIT], [-LIMIT, -LIMIT], [0, 0]])
        other = Picture([[0, LIMIT], [0, LIMIT], [-LIMIT, -LIMIT], [LIMIT, 0]])
        self.assertEqual(chart_at(edge, other, (1, 3)), chart_of(chart_rows_at(edge, other, Fraction(1, 3))))


class TurnTest(Case):

    def test_small(self):
        self.assertEqual(turn(ONE, OTHER, CORNER), Turn((2, 3)))
        self.assertEqual(turn(ONE, OTHER, Chart([[10, 0, 0], [0, 10, 0], [0, 0, 10]])), Unfit(0, (1, 2, 1, 2)))
        self.assertIs(bool(Turn(1)), True)
        self.assertIs(bool(Unfit(1, 1)), False)

    def test_back_from_the_chart(self):
        for one, other in some_pairs(8, 40):
            for c in SOME_C:
                self.assertEqual(turn(one, other, chart_at(one, other, c)), Turn(c))

    def test_unfit(self):
        told = Counter()
        dice = chance(9)
        for one, other in some_pairs(10, 40):
            chart = chart_at(one, other, (1, 2))
            rows = [list(row) for row in chart.rows]
            a, b = dice.randrange(len(rows)), dice.randrange(len(rows))
            rows[a][b] += 1
            if a != b:
                rows[b][a] += 1
            charts = [Chart(rows, chart.by), Chart(chart.rows, chart.by + 1), Chart([[0] * len(rows)] * len(rows))]
            charts += [Chart(one.products()), chart_at(one, other.times(1), (1, 3))]
            row = [dice.randrange(-2, 3) for _ in rows]
            charts.append(Chart([[x + y * z for x, z in zip(line, row)] for line, y in zip(one.products(), row)]))
            for made in charts:
                paper = turn(one, other, made)
                left = [rest(made, picture.rows) for picture in (one, other)]
                if not left[0]:
                    self.assertEqual(paper, Unfit(0, left[0].pins))
                elif not left[1]:
                    self.assertEqual(paper, Unfit(1, left[1].pins))
                else:
                    self.assertEqual(chart_at(one, other, paper.c), made)
                told[(paper.word, paper.parts[0] if paper.word == "unfit" else None)] += 1
        self.assertTrue(all(told[key] > 5 for key in (("unfit", 0), ("unfit", 1), ("turn", None))), told)

    def test_a_flat_chart(self):
        # By one a row of its own plane is left: only the other picture tells that no body is so.
        rows = [[x + y * z for x, z in zip(line, (3, 0, 0))] for line, y in zip(ONE.products(), (3, 0, 0))]
        self.assertEqual(rest(Chart(rows), ONE.rows), Rest((9, 1), (1, 0, 0)))
        self.assertEqual(turn(ONE, OTHER, Chart(rows)).number, 1)


class LeastTest(Case):

    def test_small(self):
        papers = [least_square(ONE, OTHER, step) for step in ((0, 3), (0, 1), [1, 3], (2, 2))]
        self.assertEqual(papers, [Least((5, 1), (0, 1)), Least((9, 1), (2, 3)), Least((9, 1), None), Sole((0, 1))])
        self.assertEqual(least_volume(ONE, OTHER, [2, 0, 3, 1]), Least((405, 1), (0, 1)))

    def test_squares(self):
        told = Counter()
        for one, other in some_pairs(11, 40):
            for step in itertools.product(range(one.pins), repeat=2):
                paper = least_square(one, other, step)
                told[(paper.word, paper.parts[1:] == (None,))] += 1
                squares = [fraction(chart_at(one, other, c).square(step)) for c in SOME_C]
                if isinstance(paper, Sole):
                    self.assertEqual({paper.number}, {ratio(square) for square in squares})
                    continue
                self.assertTrue(all(square >= fraction(paper.number) for square in squares))
                self.assertGreater(len(set(squares)), 1)
                if paper.c is not None:
                    self.assertEqual(chart_at(one, other, paper.c).square(step), paper.number)
                else:
                    self.assertTrue(all(square > fraction(paper.number) for square in squares))
                    near = [chart_at(one, other, c).square(step) for c in ((10 ** 6 - 1, 10 ** 6), (1 - 10 ** 6, 10 ** 6))]
                    self.assertLess(min(map(fraction, near)), fraction(paper.number) * Fraction(1001, 1000))
        self.assertTrue(all(told[key] > 5 for key in (("sole", False), ("least", True), ("least", False))), told)

    def test_volumes(self):
        told = Counter()
        for one, other in some_pairs(12, 40):
            for pins in itertools.permutations(range(one.pins), 4):
                if sum(pins) % 3:
                    continue
                paper = least_volume(one, other, pins)
                told[paper.word] += 1
                volume = chart_at(one, other, (0, 1)).volume(pins)
                self.assertEqual(paper, Sole((0, 1)) if volume == (0, 1) else Least(volume, (0, 1)))
                self.assertEqual(chart_at(one, other, (3, 5)).volume(pins), ratio(fraction(volume) * Fraction(25, 16)))
        self.assertTrue(told["sole"] > 10 and told["least"] > 10, told)


class ErrorsTest(Case):

    def calls(self):
        """Each function, a right third argument, and wrong ones with their errors."""
        steps = [(value, [value]) for value in [None, 3, (0,), (0, 1, 2), "01", {0: 1, 1: 2}]]
        steps += [((value, 0), [value]) for value in no_integers() + [-1, 4, HUGE]] + [((0, value), [value]) for value in (-1, 4, None)]
        lots = [(value, [value]) for value in [None, 3, "0123", {0: 1}]]
        lots += [((0, 1, value, 2), [value]) for value in no_integers() + [-1, 4, HUGE]] + [([value, -5], [value]) for value in (7, -1, True)]
        return [(chart_at, (0, 1), [(BadRatio, value, ["c"]) for value in no_c()]),
                (depths_at, (0, 1), [(BadRatio, value, ["c"]) for value in no_c()]),
                (turn, CORNER, [(BadChart, value, ["chart"]) for value in odd_values() + [CORNER.rows]]),
                (least_square, (0, 1), [(NoPin, value, fields) for value, fields in steps]),
                (least_volume, (0, 1, 2, 3), [(NoPin, value, fields) for value, fields in lots]
                 + [(Twice, [0, 1, 1, 0], [1]), (Twice, (3, 3), [3])])]

    def test_pictures(self):
        for call, right, wrong in self.calls():
            for value in no_pictures():
                self.fails(BadPicture, ["one"], call, value, value, None)
                self.fails(BadPicture, ["one"], call, value, OTHER, right)
                self.fails(BadPicture, ["other"], call, ONE, value, None)
        for value in no_pictures():
            self.fails(BadPicture, ["one"], along, value, value)
            self.fails(BadPicture, ["other"], along, ONE, value)

    def test_third(self):
        for call, right, wrong in self.calls():
            for error, value, fields in wrong:
                for other in (OTHER, FIVE, ONE, LINE):
                    self.fails(error, fields, call, ONE, other, value)

    def test_pins_of_one(self):
        self.fails(NoPin, [4], least_square, ONE, FIVE, (4, 0))
        self.fails(Misfit, ["pins"], least_square, FIVE, ONE, (4, 0))
        self.fails(NoPin, [4], least_volume, ONE, FIVE, (0, 1, 2, 4))
        self.fails(Misfit, ["pins"], least_volume, FIVE, ONE, (0, 1, 2, 4))

    def test_misfits(self):
        for call, right, wrong in self.calls():
            self.fails(Misfit, ["pins"], call, ONE, FIVE, right)
            self.fails(Misfit, ["pins"], call, LINE, FIVE, right)
        self.fails(Misfit, ["pins"], along, ONE, FIVE)
        for other in (OTHER, ONE, LINE):
            self.fails(Misfit, ["pins"], turn, ONE, other, Chart([[1, 0], [0, 1]]))
            for pins in ((), (0,), (0, 1, 2), [3, 1]):
                self.fails(Misfit, ["pins"], least_volume, ONE, other, pins)
        five = Picture([(0, 0), (1, 0), (0, 1), (2, 2), (1, 3)])
        self.fails(Misfit, ["pins"], least_volume, five, five, (0, 1, 2, 3, 4))

    def impossible(self, call, one, other, *third):
        with self.assertRaises(Impossible) as caught:
            call(one, other, *third)
        self.assertEqual(caught.exception.paper, axis(one, other))
        self.assertIs(type(caught.exception.paper), type(axis(one, other)))

    def test_impossible(self):
        pairs = [(ONE, other) for other in NO_AXIS] + [(LINE, ONE), (ONE, ONE)]
        self.assertEqual([axis(*pair).word for pair in pairs], ["thin", "sameplane", "unalike", "unequal", "thin", "sameplane"])
        for one, other in pairs:
            for call, right, _ in self.calls():
                self.impossible(call, one, other, right)
            self.impossible(along, one, other)
        self.assertIs(type(axis(*FAR)), Apart)
        self.impossible(along, *FAR)
        self.impossible(chart_at, *FAR, (0, 1))
        self.impossible(least_square, *FAR, (4, 4))


if __name__ == "__main__":
    unittest.main()
