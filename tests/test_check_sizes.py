"""Which papers on scales and sizes are right."""

import itertools
import unittest
from collections import Counter
from fractions import Fraction

from farseen.albums import Album
from farseen.axes import Apart, Axis, Thin, Unalike, Unequal
from farseen.charts import Chart, NoRest, rest
from farseen.check_sizes import shows_evened, shows_judged_sized, shows_scale, shows_sizes
from farseen.enlarged import enlarged
from farseen.errors import BadAlbum, BadPicture, Misfit
from farseen.evened import Evened, NoEvening, evened
from farseen.judged import Never, Open, Sure, judged
from farseen.pictures import Picture
from farseen.reasons import Misfits, NoCorner, NoTriangle
from farseen.sayings import Saying
from farseen.scales import Scale, Uneven, scale
from farseen.settled import Free, One, settle
from farseen.sizes import SizedFree, SizedOne, SizedStretch, SizeRing, judged_sized, sized_chart_at, sizes
from farseen.threes import chart_of_three
from tests.helpers import ShowsCase, are_plain, chance, is_plain_ratio, is_plain_row, odd_values, plain_determinant, plain_rank, ratio
from tests.plain_albums import (body_albums, both_directions, chart_of, direction_sum, gram, hinge_ways, is_corner, is_thin, mixed_albums, paired_albums, rows_of)
from tests.plain_sayings import is_open
from tests.plain_sizes import (enlarged_by, in_one_plane, plain_ring, plain_scale, plain_sized_quarrels, sized_albums, sized_chart, sized_planes, sized_squares,
                               sized_table, sized_three_chart, times_all)
from tests.test_albums import FIVE, no_albums, no_pictures
from tests.test_axes import ONE, OTHER
from tests.test_evened import EVEN
from tests.test_scales import SIDE
from tests.test_settled import BAD, CUBE, PLACE, SIDES
from tests.test_sizes import LONGER, RIGHT, RING, SIZED
from tests.test_stretches import CORNER, FAR, LINE

CLASSES = [(Scale, 1), (Uneven, 3), (Thin, 2), (Apart, 3), (SizedFree, 1), (SizedStretch, 3), (SizedOne, 2), (SizeRing, 4), (NoCorner, 4), (NoTriangle, 5),
           (Misfits, 6), (Evened, 2), (NoEvening, 2), (Unalike, 4), (Unequal, 4), (Axis, 2), (One, 1)]
WIDE = Picture([(0, 0), (6, 0), (0, 3), (0, 0)])
SMALL = list(itertools.product(range(-2, 3), repeat=2))
FOURS = [(1, 2, 3, 4), (4, 1, 2, 3), (0, 1, 2, 3), (1, 2, 3, 3), (1, 2, 3), (1, 2, 3, 5)]


def right_scale(one, other, word, parts):
    """Whether a denial of two pictures is right, by the document."""
    if word == "thin":
        number, row = parts
        return number in (0, 1) and is_plain_row(row, 2) and any(row) and not any(direction_sum((one, other)[number], row))
    if parts[:2] != (0, 1):
        return False
    pins = parts[2]
    if len(pins) != 4 or not all(type(pin) is int and 1 <= pin < one.pins for pin in pins):
        return False
    if word == "apart":
        rows = rows_of(one) + rows_of(other)
        return plain_determinant([[row[pin - 1] for pin in pins] for row in rows]) != 0
    if is_thin(one) or is_thin(other) or not in_one_plane(one, other):
        return False
    a, b, d, e = [pin - 1 for pin in pins]
    mine, its = gram(rows_of(one)), gram(rows_of(other))
    return mine[a][b] * its[d][e] != mine[d][e] * its[a][b]


def denials_of_two(pins):
    """Denials of the pictures 0 and 1, right or not."""
    for number in (-1, 0, 1, 2):
        for row in SMALL:
            yield Thin(number, row)
    for numbers in ((0, 1), (1, 0), (0, 0), (0, 2)):
        for its in FOURS:
            yield Apart(*numbers, its)
        for its in itertools.product(range(0, min(pins, 5)), repeat=4):
            yield Uneven(*numbers, its)
    yield Uneven(0, 1, (1, 1, 2))
    yield Uneven(0, 1, ())


class ShowsScaleTest(ShowsCase):

    def test_what_scale_tells(self):
        found = Counter()
        for album in sized_albums(761, 12):
            for one, other in itertools.permutations(album.pictures, 2):
                paper = scale(one, other)
                self.shows(lambda value: shows_scale(one, other, value), paper)
                found[paper.word] += 1
                if paper:
                    number, by = paper.square
                    for square in ((number + by, by), (2 * number, 2 * by), (-number, by), (by, number)):
                        self.assertIs(shows_scale(one, other, Scale(square)), square == paper.square)
                else:
                    for square in ((1, 1), (0, 1), None):
                        self.assertIs(shows_scale(one, other, Scale(square)), False)
        self.assertTrue(all(found[word] > 3 for word in ("scale", "thin", "apart", "uneven")), found)

    def test_denials(self):
        found = Counter()
        pairs = [(ONE, WIDE), (WIDE, ONE), (ONE, LINE), (LINE, ONE), (PLACE, LINE), (LINE, LINE.times(2)), (ONE, OTHER), (ONE, ONE.times(3)), tuple(FAR), (ONE, RING.pictures[2]),
                 (Picture([(0, 0), (1, 0), (0, 1), (1, 1)]), Picture([(0, 0), (1, 0), (0, 2), (1, 2)])), (FAR[0], FAR[0].times(2))]
        for one, other in pairs:
            for paper in denials_of_two(one.pins):
                right = right_scale(one, other, paper.word, paper.parts)
                self.assertIs(shows_scale(one, other, paper), right, (paper.word, paper.parts))
                found[(paper.word, right)] += 1
        self.assertTrue(all(found[(word, right)] > 1 for word in ("thin", "apart", "uneven") for right in (True, False)), found)

    def test_bent(self):
        for one, other in ((ONE, OTHER.times(2)), (ONE, ONE.times(-3)), (ONE, WIDE), (ONE, LINE), (LINE, PLACE), tuple(FAR)):
            paper = scale(one, other)

            def is_right(parts):
                if paper.word == "thin" and not (isinstance(parts[1], tuple) and len(parts[1]) == 2):
                    return False
                if paper.word in ("apart", "uneven") and not isinstance(parts[2], tuple):
                    return False
                return paper.word != "scale" and are_plain(parts) and right_scale(one, other, paper.word, parts)
            self.shows_no_bent(lambda value: shows_scale(one, other, value), paper, is_right)
            self.shows_nothing_else(lambda value: shows_scale(one, other, value), CLASSES)
            for value in (Axis((2, 1), (1, 2)), Unequal(0, 1, (2, 1), (1, 2)), Unalike(0, 1, 1, 1), settle(CUBE), SizedFree([(1, 1)])):
                self.assertIs(shows_scale(one, other, value), False)

    def test_errors(self):
        for value in (None, Scale((1, 1)), Thin(0, (1, 0))):
            self.fails_for(no_pictures(), BadPicture, ["one"], lambda wrong: shows_scale(wrong, None, value))
            self.fails_for(no_pictures(), BadPicture, ["other"], lambda wrong: shows_scale(ONE, wrong, value))
            self.fails(Misfit, ["pins"], shows_scale, ONE, FIVE, value)
            self.fails(Misfit, ["pins"], shows_scale, FIVE, LINE, value)


class ShowsSizesTest(ShowsCase):

    def test_what_sizes_tells(self):
        found = Counter()
        for album in sized_albums(762, 25):
            paper = sizes(album)
            self.shows(lambda value: shows_sizes(album, value), paper)
            found[paper.word] += 1
        words = ("sizedfree", "sizedstretch", "sizedone", "thin", "apart", "uneven", "sizering", "nocorner", "notriangle", "misfits")
        self.assertTrue(all(found[word] > 0 for word in words), found)

    def test_kinds(self):
        found = Counter()
        for album in sized_albums(763, 12):
            lots = plain_sized_quarrels(album)
            planes = [] if lots else sized_planes(album)
            squares = sized_squares(album) if not lots else tuple((1, 1) for _ in album.pictures)
            wrong = squares[:-1] + ((squares[-1][0] + squares[-1][1], squares[-1][1]),)
            values = [(SizedFree(squares), len(planes) == 1), (SizedFree(wrong), False), (SizedFree(squares + ((1, 1),)), False), (SizedFree(squares[:-1]), False)]
            for one, other in itertools.product(range(-1, len(album) + 1), repeat=2):
                parts = len(planes) == 2 and any((one in lot) != (other in lot) for lot in planes)
                inside = 0 <= min(one, other) and max(one, other) < len(album)
                values.append((SizedStretch(squares, one, other), parts and inside))
                values.append((SizedStretch(wrong, one, other), False))
            chart = sized_chart(album) if len(planes) > 2 else Chart(gram(rows_of(album.pictures[0])))
            values += [(SizedOne(squares, chart), len(planes) > 2), (SizedOne(wrong, chart), False), (SizedOne(squares, Chart(chart.rows, chart.by + 1)), False)]
            for value, right in values:
                self.assertIs(shows_sizes(album, value), right, (str(album), value.word, value.parts))
                found[(value.word, right)] += 1
        self.assertTrue(all(found[(word, True)] > 1 for word in ("sizedfree", "sizedstretch", "sizedone")), found)

    def test_one_of_fewer_planes(self):
        for lot in ([0], [0, 1], [0, 1, 0], [1, 0]):
            album = Album([SIZED.pictures[number] for number in lot])
            squares = [scale(album.pictures[0], picture).square for picture in album.pictures]
            self.assertIs(shows_sizes(album, SizedOne(squares, CORNER)), False)
        # A flat chart is no body's, though it leaves a Rest for each picture.
        rows = [((10, 0, 0), (0, 5, 0)), ((5, 0, 0), (0, 10, 0)), ((6, 8, 0), (-4, 3, 0))]
        flat = Album([Picture([(0, 0)] + list(zip(*two))) for two in rows])
        chart = Chart([[100, 0, 0], [0, 100, 0], [0, 0, 0]])
        self.assertIs(shows_sizes(flat, SizedOne([(1, 1)] * 3, chart)), False)
        thin = Album([Picture([(0, 0)] + [(number, 0) for number in row]) for row in ((1, 0, 0), (0, 1, 0), (0, 0, 1))])
        self.assertIs(shows_sizes(thin, SizedOne([(1, 1)] * 3, Chart([[1, 0, 0], [0, 1, 0], [0, 0, 1]]))), False)
        for album in (Album([LINE]), Album([PLACE, PLACE])):
            self.assertIs(shows_sizes(album, SizedFree([(1, 1)] * len(album))), False)
            self.assertIs(shows_sizes(album, SizedFree([])), False)
            self.assertIs(shows_sizes(album, SizedFree(None)), False)
        # A chart of two of three pictures.
        for c in ((0, 1), (1, 2), (-2, 3)):
            chart = sized_chart_at(SIZED.picked([0, 1]), c)
            self.assertIs(shows_sizes(SIZED, SizedOne(sizes(SIZED).squares, chart)), False)

    def is_reason(self, album, value):
        inside = range(len(album))
        if value.word == "thin":
            return value.number in inside and right_scale(album.pictures[value.number], ONE, "thin", (0, value.row))
        if value.one not in inside or value.other not in inside or value.one == value.other:
            return False
        return right_scale(album.pictures[value.one], album.pictures[value.other], value.word, (0, 1) + value.parts[2:])

    def test_reasons_of_one_and_two(self):
        found = Counter()
        for album in (Album([ONE, WIDE, LINE]), Album([LINE, PLACE, ONE]), Album(FAR + [FAR[0].times(2)]), SIZED, Album([WIDE, OTHER, ONE.times(2)])):
            values = [Thin(number, row) for number in range(-1, len(album) + 1) for row in SMALL]
            for one, other in itertools.product(range(-1, len(album) + 1), repeat=2):
                values += [Apart(one, other, pins) for pins in FOURS]
                values += [Uneven(one, other, pins) for pins in itertools.product(range(0, 4), repeat=4)]
            for value in values:
                right = self.is_reason(album, value)
                self.assertIs(shows_sizes(album, value), right, (str(album), value.word, value.parts))
                found[(value.word, right)] += 1
        self.assertTrue(all(found[(word, True)] > 3 for word in ("thin", "apart", "uneven")), found)

    def papers_of_lots(self, album):
        numbers = range(len(album))
        for lot in itertools.permutations(numbers, 3):
            pictures = tuple(album.pictures[number] for number in lot)
            told = [plain_scale(a, b)[0] for a, b in itertools.combinations(pictures, 2)]
            if told != [Scale] * 3 or any(in_one_plane(a, b) for a, b in itertools.combinations(pictures, 2)):
                for paper in (SizeRing(*lot, (8, 5)), SizeRing(*lot, (1, 1)), NoCorner(*lot, (0, 1)), NoTriangle(*lot, None, None)):
                    yield paper, False
                continue
            chart = sized_three_chart(pictures)
            if is_corner(pictures):
                ring, determinant = plain_ring(pictures), plain_determinant(sized_table(pictures))
                yield SizeRing(*lot, ratio(ring)), ring != 1
                yield SizeRing(*lot, ratio(ring + 1)), False
                yield NoCorner(*lot, ratio(determinant)), ring == 1 and chart is None
                yield NoCorner(*lot, ratio(determinant - 1)), False
                yield NoTriangle(*lot, None, None), False
            else:
                told = hinge_ways(pictures)
                ways = (None, None) if told is None else tuple(map(ratio, told))
                yield NoTriangle(*lot, *ways), chart is None
                yield NoTriangle(*lot, *ways[::-1]), chart is None and ways[0] == ways[1]
                yield SizeRing(*lot, (1, 1)), False
                yield NoCorner(*lot, (0, 1)), False
            if chart is not None:
                yield from self.misfits(album, lot, pictures, chart)

    def misfits(self, album, lot, pictures, rows):
        chart = chart_of(rows)
        for fourth in range(len(album)):
            made, square = plain_scale(pictures[0], album.pictures[fourth])
            if made is not Scale:
                yield Misfits(*lot, fourth, chart, NoRest((1, 1))), False
                yield Misfits(*lot, fourth, chart, rest(chart, rows_of(album.pictures[fourth]))), False
                continue
            larger = chart_of(times_all(rows, square))
            paper = rest(larger, rows_of(album.pictures[fourth]))
            yield Misfits(*lot, fourth, chart, paper), isinstance(paper, NoRest)
            if larger != chart:
                yield Misfits(*lot, fourth, larger, paper), False
            yield Misfits(*lot, fourth, Chart(chart.rows, chart.by + 7), paper), False

    def test_reasons_of_three_and_four(self):
        dice, found = chance(764), Counter()
        more = [RING, enlarged_by(dice, Album(SIDES))[0], Album(SIDES[:2] + [Picture([(0, 0), (12, 0), (4, 0), (0, 4)])]), Album(SIDES[:2] + [Picture([(0, 0), (4, 0), (4, 0), (4, 4)])])]
        more += [enlarged_by(dice, album)[0] for album in paired_albums(765, 15)]
        for album in itertools.chain(itertools.islice(sized_albums(766, 8), 0, None, 3), more):
            for value, right in self.papers_of_lots(album.picked(list(range(min(5, len(album)))))):
                self.assertIs(shows_sizes(album, value), right, (str(album), value.word, value.parts))
                found[(value.word, right)] += 1
        self.assertTrue(all(found[(word, right)] > 3 for word in ("sizering", "nocorner", "notriangle", "misfits") for right in (True, False)), found)

    def test_order_of_ring(self):
        self.assertEqual(sizes(RING).parts, (0, 1, 2, (8, 5)))
        for lot, square in (((0, 1, 2), (8, 5)), ((1, 0, 2), (5, 8)), ((2, 1, 0), (8, 5)), ((0, 2, 1), (5, 8)), ((1, 2, 0), (5, 8)), ((2, 0, 1), (5, 8))):
            pictures = tuple(RING.pictures[number] for number in lot)
            self.assertEqual(shows_sizes(RING, SizeRing(*lot, square)), ratio(plain_ring(pictures)) == square)

    def test_bent(self):
        albums = [SIZED, SIZED.picked([0, 1]), SIZED.picked([0]), RING, Album([ONE, WIDE]), Album([ONE, LINE]), Album(FAR), Album(SIDES),
                  Album(SIDES[:2] + [Picture([(0, 0), (12, 0), (4, 0), (0, 4)])]), BAD]
        for album in albums:
            paper = sizes(album)

            def is_right(parts):
                if paper.word == "thin":
                    return are_plain(parts) and isinstance(parts[1], tuple) and len(parts[1]) == 2 and self.is_reason(album, Thin(*parts))
                if paper.word in ("apart", "uneven"):
                    return are_plain(parts) and isinstance(parts[2], tuple) and self.is_reason(album, type(paper)(*parts))
                if paper.word == "sizedstretch":
                    return are_plain(parts) and parts[0] == paper.squares and parts[1:] in ((0, 1), (1, 0))
                if paper.word == "sizering":
                    return are_plain(parts) and parts[:3] in itertools.permutations(range(3)) and ratio(plain_ring(tuple(album.pictures[k] for k in parts[:3]))) == parts[3]
                if paper.word == "misfits":
                    return are_plain(parts[:4]) and shows_sizes(album, Misfits(*parts))
                return False
            self.shows_no_bent(lambda value: shows_sizes(album, value), paper, is_right)
            self.shows_nothing_else(lambda value: shows_sizes(album, value), CLASSES)
            for value in (settle(album), Free(), Unequal(0, 1, (2, 1), (1, 2)), Unalike(0, 1, 1, 1), Scale((1, 1))):
                if value.word not in ("thin", "apart", "notriangle", "misfits"):
                    self.assertIs(shows_sizes(album, value), False, (value.word, value.parts))

    def test_settled_reasons(self):
        # A NoCorner tells its determinant as a ratio; an integer is none.
        flat = Album([picture for picture in BAD.pictures])
        told = sizes(flat)
        if told.word == "nocorner":
            self.assertIs(shows_sizes(flat, NoCorner(*told.parts[:3], told.determinant[0])), False)
        self.assertIs(shows_sizes(flat, settle(flat)), False)

    def test_misfits_bent(self):
        told = sizes(Album(SIDES))
        self.assertIs(type(told), Misfits)
        for numbers in itertools.product(range(-1, 5), repeat=4):
            right = sorted(numbers[:3]) == [0, 1, 2] and numbers[3] == 3
            self.assertIs(shows_sizes(Album(SIDES), Misfits(*numbers, told.chart, told.paper)), right)
        for chart in odd_values() + [CORNER, told.chart.rows, Chart([[1, 0], [0, 1]])]:
            self.assertIs(shows_sizes(Album(SIDES), Misfits(0, 1, 2, 3, chart, told.paper)), False)
        for paper in odd_values() + [Thin(0, (1, 1)), rest(CORNER, ONE.rows)]:
            self.assertIs(shows_sizes(Album(SIDES), Misfits(0, 1, 2, 3, told.chart, paper)), False)
        self.check_any_pins(Album(SIDES), told.chart)
        larger = Album([SIDES[0].times(2), SIDES[1], SIDES[2].turned(1, 1), SIDES[3].times(3)])
        self.check_any_pins(larger, sizes(larger).chart)
        # The first picture once more leaves a Rest: no pins show a NoRest.
        for pins in [(), (1, 1), (2, 2), (3, 3)] + list(itertools.product((1, 2, 3), repeat=4)):
            self.assertIs(shows_sizes(larger.picked([0, 1, 2]).with_picture(SIDES[0]), Misfits(0, 1, 2, 3, sizes(larger).chart, NoRest(pins))), False)

    def check_any_pins(self, album, chart):
        found = Counter()
        square = plain_scale(album.pictures[0], album.pictures[3])[1]
        taken = gram(rows_of(album.pictures[3]))
        left = [[Fraction(chart.rows[a][b], chart.by) * square - taken[a][b] for b in range(3)] for a in range(3)]
        for pins in [(), (1, 2)] + [(a, a) for a in range(0, 5)] + list(itertools.product(range(0, 4), repeat=4)):
            if len(pins) == 4:
                a, b, d, e = [pin - 1 for pin in pins]
                right = min(pins) > 0 and a < b and d < e and left[a][d] * left[b][e] != left[a][e] * left[b][d]
            else:
                right = len(pins) == 2 and pins[0] == pins[1] in (1, 2, 3) and left[pins[0] - 1][pins[0] - 1] < 0
            self.assertIs(shows_sizes(album, Misfits(0, 1, 2, 3, chart, NoRest(pins))), right)
            found[right] += 1
        self.assertGreater(min(found[True], found[False]), 1)

    def test_misfits_of_no_chart(self):
        # Of threes that have no axes, no chart, or scales that make a ring, none is right, whatever is told as chart; nor is one with a fourth of no scale.
        told = sizes(Album(SIDES))
        lots = [(ONE, WIDE, OTHER, SIDE), (ONE, LINE, OTHER, SIDE), (LINE, ONE, OTHER, SIDE), (ONE, OTHER, LINE, SIDE), (PLACE, ONE, OTHER, ONE), RING.pictures + (ONE.times(2),),
                RING.pictures + (OTHER,), RING.pictures + (SIDES[2],), RING.pictures + RING.pictures[2:], tuple(SIDES[:2]) + (Picture([(0, 0), (12, 0), (4, 0), (0, 4)]), SIDES[3]), SIZED.pictures + (LINE,), SIZED.pictures + (WIDE,),
                (ONE, OTHER, SIDE, PLACE), (ONE, ONE, OTHER, SIDE)]
        for pictures in lots:
            album = Album(pictures)
            charts = [CORNER, told.chart, None, Chart([[0] * 3] * 3)]
            charts += [chart_of(rows) for rows in (sized_three_chart(pictures[:3]) if all(plain_scale(a, b)[0] is Scale and not in_one_plane(a, b) for a, b in
                                                   itertools.combinations(pictures[:3], 2)) else None,) if rows is not None]
            if pictures[:3] == RING.pictures:
                axes = [both_directions(pictures[a], pictures[b]) for a, b in ((0, 1), (0, 2), (1, 2))]
                charts.append(chart_of_three(pictures[:3], axes))
                self.assertIsInstance(charts[-1], Chart)
            for lot in ((0, 1, 2, 3), (1, 0, 2, 3), (2, 1, 0, 3)):
                for chart in charts:
                    papers = [rest(enlarged(chart, scale(pictures[lot[0]], pictures[3]).square), pictures[3].rows)] if chart == charts[-1] and scale(
                        pictures[lot[0]], pictures[3]) and chart else []
                    for paper in papers + [NoRest(()), told.paper] + [NoRest((a, a)) for a in (1, 2, 3)] + [NoRest((1, 2, a, b)) for a, b in ((1, 2), (1, 3), (2, 3))]:
                        self.assertIs(shows_sizes(album, Misfits(*lot, chart, paper)), False)
                for paper in (SizeRing(*lot[:3], (1, 1)), SizeRing(*lot[:3], (2, 1)), NoCorner(*lot[:3], (0, 1)), NoCorner(*lot[:3], (-1, 1)), NoTriangle(*lot[:3], None, None)):
                    self.assertIs(shows_sizes(album, paper), False)

    def test_errors(self):
        for paper in (SizedFree([(1, 1)]), None):
            self.fails_for(no_albums(), BadAlbum, ["album"], lambda album: shows_sizes(album, paper))


class ShowsJudgedSizedTest(ShowsCase):

    def test_open(self):
        # Charts of the album with sizes, at the size of picture 0; of the album with other sizes they are none.
        found = Counter()
        for saying in (RIGHT, Saying.right((0, 1), (0, 3))):
            found.update(self.check_open(SIZED.picked([0, 1]), saying))
        self.assertTrue(all(found[(many, right)] > 0 for many in (1, 2) for right in (True, False)), found)

    def check_open(self, album, saying):
        told = judged_sized(album, saying)
        self.assertIs(type(told), Open)
        self.shows(lambda value: shows_judged_sized(album, saying, value), told)
        charts = [sized_chart_at(album, c) for c in ((0, 1), (1, 2), (-1, 3), (2, 3), (5, 7), (999, 1000))]
        found = Counter()
        for one, other, third in itertools.product(charts, repeat=3):
            for value in (Open([one], other), Open([one, third], other)):
                right = self.is_open(saying, value.one, value.other)
                self.assertIs(shows_judged_sized(album, saying, value), right)
                found[(len(value.one), right)] += 1
        larger = Chart([[4 * number for number in row] for row in charts[0].rows], charts[0].by)
        keeping = sized_chart_at(album, (2, 3))
        for one, other in ((keeping, larger), (Chart(times_all(keeping.rows, 4)), charts[0]), (keeping, None), (None, charts[0]), (keeping, Chart([[1, 0], [0, 1]]))):
            self.assertIs(shows_judged_sized(album, saying, Open([one], other)), False)
        self.assertIs(shows_judged_sized(album, saying, Open([keeping], charts[0])), True)
        self.assertIs(shows_judged_sized(album, saying, Open([], charts[0])), False)
        self.assertIs(shows_judged_sized(album, saying, Open(keeping, charts[0])), False)
        return found

    def is_open(self, saying, one, other):
        def difference(chart):
            return Fraction(*saying.value(chart))
        if difference(other) == 0:
            return False
        if len(one) == 1:
            return difference(one[0]) == 0
        return difference(one[0]) < 0 < difference(one[1])

    def test_as_judged(self):
        # Of an album whose squares are all 1, a paper is right exactly if it is so without sizes.
        found = Counter()
        for album in itertools.islice(mixed_albums(767, 14), 0, None, 3):
            for saying in (LONGER, RIGHT, Saying.longer((1, 2), (0, 3)), Saying([(1, (0, 1), (0, 1))], "above", 0), Saying([(0, (0, 1), (0, 1))], "just", 0)):
                own, told = settle(album), sizes(album)
                if own:
                    paper = judged(album, saying)
                    self.shows(lambda value: shows_judged_sized(album, saying, value), paper)
                    found[(own.word, paper.word)] += 1
                elif not told:
                    for paper in (Sure(()), Never(()), Open((CORNER,), CORNER), None, told):
                        self.assertIs(shows_judged_sized(album, saying, paper), False)
        self.assertGreater(len(found), 5)

    def test_bent(self):
        dice = chance(768)
        for _, _, album in body_albums(769, 8):
            larger, _ = enlarged_by(dice, album)
            for saying in (LONGER, RIGHT, Saying([(1, (0, 1), (0, 1))], "above", 0)):
                paper = judged_sized(larger, saying)
                same = Album(larger.pictures[:1])

                def is_right(parts):
                    if sizes(larger).word != "sizedfree":
                        return paper.word == "open" and shows_judged_sized(larger, saying, Open(*parts))
                    if paper.word == "open":
                        one, other = parts
                        return isinstance(one, tuple) and all(isinstance(chart, Chart) for chart in one + (other,)) and is_open(same, saying, one, other)
                    return shows_judged_sized(larger, saying, type(paper)(*parts))
                self.shows_no_bent(lambda value: shows_judged_sized(larger, saying, value), paper, is_right)
                self.shows_nothing_else(lambda value: shows_judged_sized(larger, saying, value), CLASSES)
                for value in (Sure(()), Never(()), Sure(((1, 1), (1, 0, 0)))):
                    right = sizes(larger).word != "sizedfree" and value.word == paper.word and value.parts == ((),)
                    if sizes(larger).word != "sizedfree" or value.parts == ((),):
                        self.assertIs(shows_judged_sized(larger, saying, value), right)


class ShowsEvenedTest(ShowsCase):

    def test_small(self):
        for album, paper, right in ((SIZED, NoEvening(2, (2, 1)), True), (SIZED, NoEvening(1, (4, 1)), False), (SIZED, NoEvening(2, (4, 1)), False),
                                    (SIZED, Evened((1, 1, 1), SIZED), False), (CUBE, Evened((1, 1, 1), CUBE), True), (CUBE, Evened((2, 2, 2), CUBE), False),
                                    (CUBE, NoEvening(0, (1, 1)), False), (EVEN, Evened((6, 3, 2), evened(EVEN).album), True), (EVEN, Evened((6, 3, 2), EVEN), False),
                                    (EVEN, Evened((6, 3), evened(EVEN).album), False), (EVEN, Evened((-6, 3, 2), evened(EVEN).album), False)):
            self.assertIs(shows_evened(album, paper), right, (paper.word, paper.parts))
        many = Album([ONE, OTHER.turned(1, 1), OTHER, ONE.turned(1, 2)])
        for number in range(-1, 5):
            for square in ((2, 1), (5, 1), (1, 1)):
                self.assertIs(shows_evened(many, NoEvening(number, square)), (number, square) in ((1, (2, 1)), (3, (5, 1))))

    def test_what_evened_tells(self):
        found = Counter()
        for album in sized_albums(771, 12):
            if sizes(album):
                paper = evened(album)
                self.shows(lambda value: shows_evened(album, value), paper)
                found[paper.word] += 1
            else:
                for value in (Evened([1] * len(album), album), NoEvening(0, (1, 1)), NoEvening(0, (2, 1)), sizes(album), None):
                    self.assertIs(shows_evened(album, value), False)
                found["none"] += 1
        self.assertTrue(all(found[word] > 3 for word in ("evened", "noevening", "none")), found)

    def test_bent(self):
        for album in (SIZED, EVEN, CUBE.picked([0]), SIZED.picked([1, 0])):
            self.shows_no_bent(lambda value: shows_evened(album, value), evened(album))
            self.shows_nothing_else(lambda value: shows_evened(album, value), CLASSES)

    def test_errors(self):
        for paper in (None, Evened((1,), Album([ONE]))):
            self.fails_for(no_albums(), BadAlbum, ["album"], lambda album: shows_evened(album, paper))


if __name__ == "__main__":
    unittest.main()
