"""Which papers on the kinds of albums are right."""

import itertools
import unittest
from collections import Counter

from farseen.albums import Album
from farseen.axes import Apart, Axis, SamePlane, Thin, Unalike, Unequal
from farseen.charts import Chart, NoRest, rest
from farseen.check_axes import shows_axis
from farseen.check_settled import shows_corner, shows_settle
from farseen.corners import Corner, Hinge, corner
from farseen.errors import BadAlbum, Impossible, Misfit, NoPicture, Twice
from farseen.pictures import Picture
from farseen.reasons import Misfits, NoCorner, NoTriangle
from farseen.settled import Free, One, Stretch, settle
from tests.helpers import HUGE, ShowsCase, are_plain, chance, fakes, is_plain_row, no_integers, odd_values, plain_determinant, ratio
from tests.plain_albums import (chart_of, corner_axes, corner_table, direction_sum, gram, hinge_ways, is_corner, is_thin, mixed_albums,
                                plain_axis, plain_chart, plain_kind, plain_planes, rows_of, square_of, three_chart)
from tests.test_albums import no_albums
from tests.test_axes import ONE, OTHER
from tests.test_check_axes import right_axis
from tests.test_settled import BAD, CUBE, PLACE, SIDES, TORN, all_albums
from tests.test_stretches import CORNER, FAR, LINE, NO_AXIS

CLASSES = [(Free, 0), (Stretch, 2), (One, 1), (Thin, 2), (Apart, 3), (Unalike, 4), (Unequal, 4), (NoCorner, 4), (NoTriangle, 5),
           (Misfits, 6), (Corner, 2), (Hinge, 2), (Axis, 2), (SamePlane, 1), (NoRest, 1)]
SMALL = list(itertools.product(range(-2, 3), repeat=2))
FLAT = Album(SIDES[:2] + [Picture([(0, 0), (12, 0), (4, 0), (0, 4)])])
NO_WAYS = Album(SIDES[:2] + [Picture([(0, 0), (4, 0), (4, 0), (4, 4)])])


def papers_of_lots(album):
    """Right papers of three and four pictures in any order, and wrong ones that are like them."""
    numbers = range(len(album))
    for lot in itertools.permutations(numbers, 3):
        pictures = [album.pictures[number] for number in lot]
        if [plain_axis(a, b)[0] for a, b in itertools.combinations(pictures, 2)] != [Axis] * 3:
            yield NoCorner(*lot, 0), False
            yield NoCorner(*lot, -1), False
            yield NoTriangle(*lot, None, None), False
            yield NoTriangle(*lot, (2, 1), (1, 1)), False
            continue
        chart = three_chart(pictures)
        if is_corner(pictures):
            determinant = plain_determinant(corner_table(corner_axes(pictures)))
            yield NoCorner(*lot, determinant), chart is None
            yield NoCorner(*lot, determinant - 1), False
            yield NoTriangle(*lot, None, None), False
        else:
            told = hinge_ways(pictures)
            ways = (None, None) if told is None else tuple(map(ratio, told))
            yield NoTriangle(*lot, *ways), chart is None
            yield NoTriangle(*lot, *ways[::-1]), chart is None and ways[0] == ways[1]
            yield NoCorner(*lot, 0), False
        if chart is None:
            continue
        chart = chart_of(chart)
        for fourth in numbers:
            paper = rest(chart, rows_of(album.pictures[fourth]))
            yield Misfits(*lot, fourth, chart, paper), isinstance(paper, NoRest)
            yield Misfits(*lot, fourth, Chart(chart.rows, chart.by + 7), paper), False


class ShowsSettleTest(ShowsCase):

    def test_what_settle_tells(self):
        told = Counter()
        for album in all_albums(51, 30):
            paper = settle(album)
            self.shows(lambda value: shows_settle(album, value), paper)
            told[paper.word] += 1
        self.assertEqual(len(told), 10, told)

    def test_kinds(self):
        told = Counter()
        for album in itertools.chain(all_albums(52, 20), [Album([ONE, ONE.mirrored(), ONE.turned()])]):
            word, planes = plain_kind(album), plain_planes(album)
            values = [(Free(), word == "free")]
            for one, other in itertools.product(range(-1, len(album) + 1), repeat=2):
                parts = not any(one in lot and other in lot for lot in planes)
                inside = 0 <= min(one, other) and max(one, other) < len(album)
                values.append((Stretch(one, other), word == "stretch" and parts and inside))
            chart = plain_chart(album) if word == "one" else Chart(gram(rows_of(album.pictures[0])))
            values += [(One(chart), word == "one"), (One(Chart(chart.rows, chart.by + 1)), False), (One(CORNER), word == "one" and chart == CORNER)]
            for value, right in values:
                self.assertIs(shows_settle(album, value), right, (str(album), value.word, value.parts))
                told[(value.word, right)] += 1
        self.assertTrue(all(told[(word, True)] > 1 for word in ("free", "stretch", "one")), told)

    def test_one_of_fewer_planes(self):
        # A right chart of a stretch, and one of two bodies: none of them is told.
        self.assertIs(shows_settle(CUBE.picked([0, 1]), One(CORNER)), False)
        self.assertIs(shows_settle(CUBE.picked([0]), One(CORNER)), False)
        self.assertIs(shows_settle(CUBE.picked([0, 1]).joined(CUBE.picked([1, 0])), One(CORNER)), False)
        self.assertIs(shows_settle(Album([PLACE]), Free()), False)
        self.assertIs(shows_settle(Album([LINE, LINE]), Free()), False)
        self.assertIs(shows_settle(Album([ONE, LINE]), Stretch(0, 1)), False)
        self.assertIs(shows_settle(Album([ONE, ONE.times(2)]), Stretch(0, 1)), False)

    def test_one_of_flat_charts(self):
        # All three are in one plane, and each leaves a Rest of a chart that is no body's.
        rows = [((10, 0, 0), (0, 5, 0)), ((5, 0, 0), (0, 10, 0)), ((6, 8, 0), (-4, 3, 0))]
        album = Album([Picture([(0, 0)] + list(zip(*two))) for two in rows])
        chart = Chart([[100, 0, 0], [0, 100, 0], [0, 0, 0]])
        self.assertEqual([rest(chart, picture.rows).word for picture in album.pictures], ["rest"] * 3)
        self.assertIs(shows_settle(album, One(chart)), False)
        self.assertIs(shows_settle(album, One(Chart([[100, 0, 0], [0, 100, 0], [0, 0, 1]]))), False)

    def test_one_of_thin_pictures(self):
        thin = Album([Picture([(0, 0)] + [(number, 0) for number in row]) for row in ((1, 0, 0), (0, 1, 0), (0, 0, 1))])
        for chart in (Chart([[1, 0, 0], [0, 1, 0], [0, 0, 1]]), Chart([[2, 0, 0], [0, 2, 0], [0, 0, 2]]), Chart([[1, 1, 1]] * 3)):
            self.assertIs(shows_settle(thin, One(chart)), False)

    def test_reasons_of_one_and_two(self):
        told = Counter()
        more = [Album([ONE, ONE.times(2), LINE]), Album([LINE, PLACE]), Album([ONE, NO_AXIS[2], NO_AXIS[3]])]
        for album in itertools.chain(itertools.islice(all_albums(53, 15), 0, None, 4), more):
            pairs = list(itertools.product(range(-1, len(album) + 1), repeat=2))
            values = [Thin(number, row) for number in range(-1, len(album) + 1) for row in SMALL]
            for one, other in pairs:
                values += [Unalike(one, other, a, b) for a in range(0, 4) for b in range(0, 4)]
                values += [Apart(one, other, pins) for pins in ((1, 2, 3, 4), (4, 1, 2, 3), (0, 1, 2, 3), (1, 2, 3, 3))]
                values += [Unequal(one, other, mine, its) for mine, its in itertools.product(SMALL[::3] + [(1, 0), (2, 0)], repeat=2)]
            for value in values:
                right = self.is_reason(album, value)
                self.assertIs(shows_settle(album, value), right, (str(album), value.word, value.parts))
                told[(value.word, right)] += 1
        self.assertTrue(all(told[(word, True)] > 3 for word in ("thin", "unalike", "unequal", "apart")), told)

    def is_reason(self, album, value):
        inside = range(len(album))
        if value.word == "thin":
            if value.number not in inside:
                return False
            return right_axis(album.pictures[value.number], ONE, "thin", (0, value.row))
        if value.one not in inside or value.other not in inside or value.one == value.other:
            return False
        return right_axis(album.pictures[value.one], album.pictures[value.other], value.word, (0, 1) + value.parts[2:])

    def test_reasons_of_three_and_four(self):
        told = Counter()
        for album in itertools.chain(itertools.islice(all_albums(54, 12), 0, None, 2), [BAD, Album(SIDES), FLAT, NO_WAYS]):
            for value, right in papers_of_lots(album.picked(list(range(min(5, len(album)))))):
                self.assertIs(shows_settle(album, value), right, (str(album), value.word, value.parts))
                told[(value.word, right)] += 1
        self.assertTrue(all(told[(word, right)] > 3 for word in ("nocorner", "notriangle", "misfits") for right in (True, False)), told)

    def test_misfits_of_any_pins(self):
        told = settle(Album(SIDES))
        found = Counter()
        taken = gram(rows_of(SIDES[3]))
        left = [[told.chart.rows[a][b] - told.chart.by * taken[a][b] for b in range(3)] for a in range(3)]
        for pins in [(), (1, 2)] + [(a, a) for a in range(0, 5)] + list(itertools.product(range(0, 4), repeat=4)):
            if len(pins) == 4:
                a, b, d, e = [pin - 1 for pin in pins]
                right = min(pins) > 0 and a < b and d < e and left[a][d] * left[b][e] != left[a][e] * left[b][d]
            else:
                right = len(pins) == 2 and pins[0] == pins[1] in (1, 2, 3) and left[pins[0] - 1][pins[0] - 1] < 0
            self.assertIs(shows_settle(Album(SIDES), Misfits(0, 1, 2, 3, told.chart, NoRest(pins))), right)
            found[right] += 1
        self.assertGreater(found[True], 1)
        for fake in fakes(told.paper) + [None, (), rest(CORNER, ONE.rows), Thin(0, (1, 1))]:
            self.assertIs(shows_settle(Album(SIDES), Misfits(0, 1, 2, 3, told.chart, fake)), False)

    def test_bent(self):
        albums = [CUBE, CUBE.picked([0]), CUBE.picked([0, 1]), BAD, FLAT, NO_WAYS, Album(SIDES), Album(FAR), Album([ONE, LINE]),
                  Album([ONE, NO_AXIS[2]]), Album([ONE, NO_AXIS[3]])]
        for album in albums:
            paper = settle(album)

            def is_right(parts):
                if paper.word in ("thin", "apart", "unalike", "unequal"):
                    return are_plain(parts) and self.is_reason(album, type(paper)(*parts))
                if paper.word == "stretch":
                    return are_plain(parts) and parts in ((0, 1), (1, 0))
                if paper.word == "misfits":
                    return are_plain(parts[:4]) and shows_settle(album, Misfits(*parts))
                return False
            self.shows_no_bent(lambda value: shows_settle(album, value), paper, is_right)
            for value in odd_values():
                self.assertIs(shows_settle(album, value), False)
                for made, many in CLASSES:
                    if many:
                        odd = made(*[value] * many)
                        self.assertIs(shows_settle(album, odd), False, (odd.word, odd.parts))

    def test_misfits_bent(self):
        # Whatever a bent Misfits tells, it is right only for the fourth picture and the chart of the first three.
        told = settle(Album(SIDES))
        for numbers in itertools.product(range(-1, 5), repeat=4):
            right = sorted(numbers[:3]) == [0, 1, 2] and numbers[3] == 3
            self.assertIs(shows_settle(Album(SIDES), Misfits(*numbers, told.chart, told.paper)), right)
        # Of threes that have no axes, or no chart, none is right, whatever is told as chart.
        for pictures in (TORN.pictures, BAD.pictures + (ONE,), NO_WAYS.pictures + (SIDES[0],), (ONE, ONE, OTHER, CUBE.pictures[2]), (LINE, ONE, OTHER, ONE)):
            for lot in itertools.permutations(range(4)):
                for chart in (CORNER, None, told.chart, Chart([[0] * 3] * 3)):
                    for paper in (told.paper, NoRest(()), NoRest((1, 1))):
                        self.assertIs(shows_settle(Album(pictures), Misfits(*lot, chart, paper)), False)
        for chart in odd_values() + [CORNER, told.chart.rows, Chart([[1, 0], [0, 1]])]:
            self.assertIs(shows_settle(Album(SIDES), Misfits(0, 1, 2, 3, chart, told.paper)), False)

    def test_errors(self):
        for paper in (Free(), None):
            self.fails_for(no_albums(), BadAlbum, ["album"], lambda album: shows_settle(album, paper))


class ShowsCornerTest(ShowsCase):

    def test_what_corner_tells(self):
        told = Counter()
        for album in itertools.islice(all_albums(55, 15), 0, None, 2):
            for lot in itertools.combinations(range(len(album)), 3):
                try:
                    paper = corner(album, lot)
                except (Impossible, Misfit) as error:
                    self.refuses(album, lot, error)
                    continue
                for numbers in (lot, lot[::-1]):
                    self.shows(lambda value: shows_corner(album, numbers, value), paper)
                self.check_multiples(album, lot, paper)
                told[paper.word] += 1
        self.assertTrue(min(told["corner"], told["hinge"]) > 3, told)

    def refuses(self, album, lot, error):
        values = [None, Corner((), ()), Hinge((), None), settle(album)]
        for value in values:
            if isinstance(error, Impossible):
                self.assertIs(shows_corner(album, lot, value), False)
            else:
                self.fails(Misfit, ["planes"], shows_corner, album, lot, value)

    def check_multiples(self, album, lot, paper):
        def shown(made):
            return shows_corner(album, lot, made)
        dice = chance(56)
        if isinstance(paper, Hinge):
            for by in (-1, 2, -3, HUGE):
                self.assertIs(shown(Hinge([[by * number for number in end] for end in paper.ends], paper.ratios)), True)
            self.assertIs(shown(Hinge([(0, 0)] * 3, paper.ratios)), False)
            self.assertIs(shown(Hinge([paper.ends[0]] + [[-number for number in end] for end in paper.ends[1:]], paper.ratios)), False)
            self.assertIs(shown(Corner(paper.ends, paper.ratios)), False)
            return
        for _ in range(4):
            many = [dice.choice((-2, -1, 1, 3)) for _ in range(3)]
            axes = [[[by * number for number in end] for end in ends] for by, ends in zip(many, paper.axes)]
            table = [[many[a] * many[b] * paper.products[a][b] for b in range(3)] for a in range(3)]
            self.assertIs(shown(Corner(axes, table)), True)
            self.assertIs(shown(Corner(axes, paper.products)), table == [list(row) for row in paper.products])
            if any(many[a] * many[b] != 1 for a, b in itertools.combinations(range(3), 2)):
                table[0][1] += 1
                self.assertIs(shown(Corner(axes, table)), False)
        none = [((0, 0), (0, 0))] + list(paper.axes[1:])
        self.assertIs(shown(Corner(none, [[0, 0, 0]] + [[0] + list(row[1:]) for row in paper.products[1:]])), False)

    def test_bent(self):
        axes, products = corner(CUBE, [0, 1, 2]).parts
        self.shows_no_bent(lambda value: shows_corner(CUBE, [0, 1, 2], value), Corner(axes, products))
        for album, lot in ((Album(SIDES), (0, 1, 3)), (NO_WAYS, (0, 1, 2)), (FLAT, (2, 1, 0))):
            self.shows_no_bent(lambda value: shows_corner(album, lot, value), corner(album, lot))
        for album in (CUBE, Album(SIDES), BAD, TORN):
            for value in odd_values():
                self.assertIs(shows_corner(album, [0, 1, 2], value), False)
                for made, many in CLASSES:
                    self.assertIs(shows_corner(album, [0, 1, 2], made(*[value] * many)), False)

    def test_errors(self):
        for paper in (corner(CUBE, [0, 1, 2]), None):
            self.fails_for(no_albums(), BadAlbum, ["album"], lambda album: shows_corner(album, None, paper))
            for value in no_integers() + [-1, 3, HUGE]:
                self.fails(NoPicture, [value], shows_corner, CUBE, (0, value, 1), paper)
            for value in (None, "012", {0: 1}):
                self.fails(NoPicture, [value], shows_corner, CUBE, value, paper)
            self.fails(Twice, [1], shows_corner, CUBE, (1, 1, 2), paper)
            self.fails(Misfit, ["numbers"], shows_corner, CUBE, (1, 2), paper)
            self.fails(Misfit, ["numbers"], shows_corner, TORN, (0, 1, 2, 3), paper)
            self.fails(Misfit, ["planes"], shows_corner, Album([ONE, ONE, OTHER]), (0, 1, 2), paper)
            self.assertIs(shows_corner(TORN, (0, 1, 2), paper), False)
            self.assertIs(shows_corner(Album([ONE, ONE, LINE]), (0, 1, 2), paper), False)


if __name__ == "__main__":
    unittest.main()
