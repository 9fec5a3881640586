"""Which papers on two pictures are right."""

import itertools
import unittest
from collections import Counter

from farseen.axes import Apart, Axis, SamePlane, Thin, Unalike, Unequal, axis
from farseen.charts import Chart, rest
from farseen.check_axes import shows_axis, shows_least_square, shows_least_volume, shows_turn
from farseen.errors import BadChart, BadPicture, Misfit, NoPin, Twice
from farseen.leasts import Least, Sole, least_square, least_volume
from farseen.pictures import Picture
from farseen.stretches import Along, Turn, Unfit, chart_at, turn
from tests.helpers import HUGE, ShowsCase, are_plain, is_plain_row, odd_values, plain_determinant
from tests.plain_albums import direction_sum, gram, is_thin, mixed_albums, plain_axis, rows_of, square_of
from tests.test_albums import FIVE, no_pictures
from tests.test_axes import ONE, OTHER
from tests.test_stretches import CORNER, FAR, LINE, NO_AXIS, no_c, some_pairs

CLASSES = [(Axis, 2), (SamePlane, 1), (Thin, 2), (Apart, 3), (Unalike, 4), (Unequal, 4), (Turn, 1), (Unfit, 2), (Least, 2), (Sole, 1),
           (Along, 4)]
PLACE = Picture([[5, 5]] * 4)


def all_pairs(seed, many):
    """Pairs of pictures of all kinds."""
    for album in mixed_albums(seed, many):
        yield from itertools.islice(itertools.product(album.pictures, repeat=2), 6)


def right_axis(one, other, word, parts):
    """Whether these are the parts of a right paper of this class, straight by the document."""
    pictures = (one, other)
    if word == "axis":
        mine, its = parts
        if not is_plain_row(mine, 2) or not is_plain_row(its, 2) or not any(mine + its):
            return False
        if direction_sum(one, mine) != direction_sum(other, its) or square_of(mine) != square_of(its):
            return False
        return plain_axis(one, other)[0] is Axis
    if word == "sameplane":
        if not are_plain(parts[0]) or parts[0] not in (1, -1) or plain_axis(one, other)[0] is not SamePlane:
            return False
        return parts[0] == axis(one, other).hand
    if word == "thin":
        number, row = parts
        return (type(number) is int and number in (0, 1) and is_plain_row(row, 2) and any(row)
                and not any(direction_sum(pictures[number], row)))
    if not are_plain(parts[:2]) or parts[:2] != (0, 1):
        return False
    if word == "apart":
        pins = parts[2]
        if not is_plain_row(pins, 4) or not all(1 <= pin < one.pins for pin in pins):
            return False
        return plain_determinant([[row[pin - 1] for pin in pins] for row in rows_of(one) + rows_of(other)]) != 0
    if word == "unalike":
        if not all(type(pin) is int and 1 <= pin < one.pins for pin in parts[2:]) or plain_axis(one, other)[0] is not Unalike:
            return False
        a, b = parts[2:]
        return gram(rows_of(one))[a - 1][b - 1] != gram(rows_of(other))[a - 1][b - 1]
    mine, its = parts[2:]
    if not is_plain_row(mine, 2) or not is_plain_row(its, 2):
        return False
    return direction_sum(one, mine) == direction_sum(other, its) and square_of(mine) != square_of(its)


class ShowsAxisTest(ShowsCase):

    def check(self, one, other, value):
        right = right_axis(one, other, value.word, value.parts)
        self.assertIs(shows_axis(one, other, value), right, (str(one), str(other), value.word, value.parts))
        return right

    def test_what_axis_tells(self):
        told = Counter()
        for one, other in all_pairs(21, 40):
            paper = axis(one, other)
            self.shows(lambda value: shows_axis(one, other, value), paper)
            told[paper.word] += 1
        self.assertEqual(len(told), 6, told)

    def test_any_integers_and_pins(self):
        told = Counter()
        small = list(itertools.product(range(-2, 3), repeat=2))
        for one, other in itertools.islice(all_pairs(22, 25), 0, None, 4):
            values = [Axis(mine, its) for mine, its in itertools.product(small, repeat=2)]
            values += [Unequal(0, 1, mine, its) for mine, its in itertools.product(small, repeat=2)]
            values += [Thin(number, row) for number in range(-1, 3) for row in small]
            values += [Unalike(0, 1, a, b) for a in range(-1, 8) for b in range(-1, 8)]
            values += [SamePlane(hand) for hand in (1, -1, 0, 2, True)]
            values += [Apart(0, 1, pins) for pins in itertools.islice(itertools.product(range(0, one.pins + 1), repeat=4), 0, None, 7)]
            for value in values:
                told[(value.word, self.check(one, other, value))] += 1
        for word in ("axis", "unequal", "thin", "unalike", "sameplane"):
            self.assertGreater(told[(word, True)], 3, told)

    def test_multiples_of_the_axis(self):
        for one, other in some_pairs(23, 20):
            mine, its = axis(one, other).parts
            for by in (1, -1, 2, -5, HUGE):
                self.shows(lambda value: shows_axis(one, other, value), Axis([by * number for number in mine], [by * number for number in its]))
            self.shows_not(lambda value: shows_axis(one, other, value), Axis((0, 0), (0, 0)))
            self.shows_not(lambda value: shows_axis(one, other, value), Axis([2 * number for number in mine], its))

    def test_no_axis_of_thin_pictures_and_one_plane(self):
        kin = NO_AXIS[1]
        for mine, its in itertools.product(itertools.product(range(-2, 3), repeat=2), repeat=2):
            self.assertIs(shows_axis(ONE, kin, Axis(mine, its)), False)
            self.assertIs(shows_axis(PLACE, PLACE, Axis(mine, its)), False)
            self.assertIs(shows_axis(ONE, LINE, Axis(mine, its)), False)
        self.assertIs(shows_axis(PLACE, PLACE, Unequal(0, 1, (1, 0), (3, 4))), True)
        self.assertIs(shows_axis(ONE, Picture([[0, 0], [6, 0], [0, 3], [0, 0]]), Unequal(0, 1, (2, 0), (1, 0))), True)

    def test_apart(self):
        for pins in itertools.permutations((1, 2, 3, 4)):
            self.shows(lambda value: shows_axis(*FAR, value), Apart(0, 1, pins))
        for pins in ((1, 2, 3, 3), (0, 1, 2, 3), (1, 2, 3, 5), (1, 2, 3), (1, 2, 3, 4, 4), (1, 2, 3, True), ()):
            self.shows_not(lambda value: shows_axis(*FAR, value), Apart(0, 1, pins))
        self.shows_not(lambda value: shows_axis(*FAR, value), Apart(1, 0, (1, 2, 3, 4)))

    def test_bent(self):
        for one, other in [(ONE, OTHER), FAR, (LINE, ONE), (PLACE, PLACE)] + [(ONE, other) for other in NO_AXIS]:
            paper = axis(one, other)
            word = paper.word
            self.shows_no_bent(lambda value: shows_axis(one, other, value), paper, lambda parts: right_axis(one, other, word, parts))
            for value in odd_values():
                self.assertIs(shows_axis(one, other, value), False)
                for made, many in CLASSES:
                    if many:
                        paper = made(*[value] * many)
                        right = made in (Axis, SamePlane, Thin, Apart, Unalike, Unequal) and right_axis(one, other, paper.word, paper.parts)
                        self.assertIs(shows_axis(one, other, paper), right)

    def test_errors(self):
        for value in no_pictures():
            for paper in (Axis((2, 1), (1, 2)), None):
                self.fails(BadPicture, ["one"], shows_axis, value, value, paper)
                self.fails(BadPicture, ["other"], shows_axis, ONE, value, paper)
        self.fails(Misfit, ["pins"], shows_axis, ONE, FIVE, None)


class ShowsTurnTest(ShowsCase):

    def test_what_turn_tells(self):
        for one, other in some_pairs(24, 25):
            size = one.pins - 1
            charts = [chart_at(one, other, (1, 2)), chart_at(one, other, (-3, 4)), Chart([[0] * size] * size), Chart(one.products()),
                      Chart(one.products(), 2)]
            for chart in charts:
                self.shows(lambda value: shows_turn(one, other, chart, value), turn(one, other, chart))
                for c in ((1, 2), (-3, 4), (0, 1), (2, 4), (1, 1), [1, 2], (3, 2)):
                    self.assertIs(shows_turn(one, other, chart, Turn(c)), turn(one, other, chart) == Turn(c))

    def test_either_picture_and_any_pins(self):
        rows = [[x + y * z for x, z in zip(line, (3, 0, 0))] for line, y in zip(ONE.products(), (3, 0, 0))]
        charts = [CORNER, Chart(rows), Chart([[10, 0, 0], [0, 10, 0], [0, 0, 10]]), Chart(ONE.products()), Chart(OTHER.products()),
                  Chart([[1, 0, 0], [0, 1, 0], [0, 0, 1]])]
        found = Counter()
        for chart in charts:
            lots = [()] + [(a, a) for a in range(1, 4)] + list(itertools.product(range(0, 5), repeat=4))
            for number, picture in enumerate((ONE, OTHER)):
                taken = gram(rows_of(picture))
                left = [[chart.rows[a][b] - chart.by * taken[a][b] for b in range(3)] for a in range(3)]
                for pins in lots:
                    if len(pins) == 4:
                        a, b, d, e = [pin - 1 for pin in pins]
                        right = (min(pins) > 0 and max(pins) < 4 and a < b and d < e
                                 and left[a][d] * left[b][e] != left[a][e] * left[b][d])
                    else:
                        right = left[pins[0] - 1][pins[0] - 1] < 0 if pins else not any(map(any, left))
                    self.assertIs(shows_turn(ONE, OTHER, chart, Unfit(number, pins)), right)
                    found[(number, len(pins), right)] += 1
            for number in (2, 3, -1, -2, True, False, None, 1.0):
                for pins in ((), (1, 1), (1, 2, 1, 2)):
                    self.assertIs(shows_turn(ONE, OTHER, chart, Unfit(number, pins)), False)
        self.assertTrue(all(found[(number, size, True)] > 0 for number in (0, 1) for size in (0, 2, 4)), found)

    def test_bent(self):
        for chart, paper in ((CORNER, Turn((2, 3))), (Chart([[1, 0, 0], [0, 1, 0], [0, 0, 1]]), None), (Chart(ONE.products()), None)):
            paper = paper or turn(ONE, OTHER, chart)

            def is_right(parts):
                return isinstance(paper, Unfit) and are_plain(parts) and parts[0] in (0, 1) and shows_turn(ONE, OTHER, chart, Unfit(*parts))
            self.shows_no_bent(lambda value: shows_turn(ONE, OTHER, chart, value), paper, is_right)
            for value in odd_values():
                self.assertIs(shows_turn(ONE, OTHER, chart, value), False)
                for made, many in CLASSES:
                    self.assertIs(shows_turn(ONE, OTHER, chart, made(*[value] * many)), False)

    def test_no_axis(self):
        for other in NO_AXIS:
            for paper in (Turn((2, 3)), Turn((0, 1)), Unfit(0, (1, 2, 1, 2)), Unfit(1, (1, 2, 1, 2)), Unfit(0, ()), axis(ONE, other), None):
                for chart in (CORNER, Chart(ONE.products())):
                    self.assertIs(shows_turn(ONE, other, chart, paper), False)

    def test_errors(self):
        for paper in (Turn((2, 3)), None):
            for value in no_pictures():
                self.fails(BadPicture, ["one"], shows_turn, value, value, None, paper)
                self.fails(BadPicture, ["other"], shows_turn, ONE, value, None, paper)
            for value in odd_values():
                for other in (OTHER, FIVE, LINE):
                    self.fails(BadChart, ["chart"], shows_turn, ONE, other, value, paper)
            self.fails(Misfit, ["pins"], shows_turn, ONE, FIVE, CORNER, paper)
            self.fails(Misfit, ["pins"], shows_turn, ONE, OTHER, Chart([[1, 0], [0, 1]]), paper)
            self.fails(Misfit, ["pins"], shows_turn, ONE, LINE, Chart([[1, 0], [0, 1]]), paper)


class ShowsLeastTest(ShowsCase):

    def test_squares(self):
        for step in itertools.product(range(4), repeat=2):
            self.shows_no_bent(lambda value: shows_least_square(ONE, OTHER, step, value), least_square(ONE, OTHER, step))
        for value in odd_values():
            self.assertIs(shows_least_square(ONE, OTHER, (0, 1), value), False)
            for made, many in CLASSES:
                self.assertIs(shows_least_square(ONE, OTHER, (0, 1), made(*[value] * many)), False)
        self.shows(lambda value: shows_least_square(ONE, OTHER, (1, 3), value), Least((9, 1), None))

    def test_volumes(self):
        five = [Picture([(0, 0), (1, 0), (0, 1), (2, 2), (1, 1)]), Picture([(0, 0), (1, 0), (0, 0), (2, 3), (1, 0)])]
        self.assertEqual(axis(*five).word, "axis")
        for pins in ((0, 1, 2, 3), (0, 1, 2, 4), [4, 3, 0, 2]):
            self.shows_no_bent(lambda value: shows_least_volume(*five, pins, value), least_volume(*five, pins))
        self.shows_no_bent(lambda value: shows_least_volume(ONE, OTHER, [2, 0, 3, 1], value), Least((405, 1), (0, 1)))
        self.assertEqual(least_volume(*five, (0, 1, 2, 4)), Sole((0, 1)))

    def test_many(self):
        for one, other in some_pairs(25, 20):
            for step in ((0, 1), (1, 2), (3, 3)):
                papers = [least_square(one, other, step), least_square(one, other, (0, 2)), Sole((0, 1)), Least((0, 1), None)]
                for paper in papers:
                    self.assertIs(shows_least_square(one, other, step, paper), paper == papers[0])

    def test_no_axis(self):
        for other in NO_AXIS:
            for paper in (Least((9, 1), (2, 3)), Sole((0, 1)), Sole((9, 1)), axis(ONE, other)):
                self.assertIs(shows_least_square(ONE, other, (0, 1), paper), False)
                self.assertIs(shows_least_square(ONE, other, (1, 1), paper), False)
                self.assertIs(shows_least_volume(ONE, other, (0, 1, 2, 3), paper), False)

    def test_errors(self):
        for paper in (Sole((0, 1)), None):
            for value in no_pictures():
                for call in (shows_least_square, shows_least_volume):
                    self.fails(BadPicture, ["one"], call, value, value, None, paper)
                    self.fails(BadPicture, ["other"], call, ONE, value, None, paper)
            for other in (OTHER, FIVE, LINE):
                self.fails(NoPin, [4], shows_least_square, ONE, other, (0, 4), paper)
                self.fails(NoPin, [None], shows_least_square, ONE, other, None, paper)
                self.fails(NoPin, [True], shows_least_volume, ONE, other, (0, True), paper)
                self.fails(NoPin, ["0123"], shows_least_volume, ONE, other, "0123", paper)
                self.fails(Twice, [1], shows_least_volume, ONE, other, (1, 1), paper)
            for other in (OTHER, LINE):
                self.fails(Misfit, ["pins"], shows_least_volume, ONE, other, (0, 1, 2), paper)
            self.fails(Misfit, ["pins"], shows_least_square, ONE, FIVE, (0, 1), paper)
            self.fails(Misfit, ["pins"], shows_least_volume, ONE, FIVE, (0, 1, 2, 3), paper)


if __name__ == "__main__":
    unittest.main()
