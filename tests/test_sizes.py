"""What albums tell with untold sizes."""

import itertools
import unittest
from collections import Counter
from fractions import Fraction

from farseen.albums import Album
from farseen.axes import Apart, Axis, Thin
from farseen.bodies import Body
from farseen.charts import Chart, rest
from farseen.check_sizes import shows_judged_sized, shows_sizes
from farseen.errors import BadAlbum, BadRatio, BadSaying, Impossible, Misfit
from farseen.judged import judged
from farseen.pictures import Picture
from farseen.reasons import Misfits, NoCorner, NoTriangle
from farseen.sayings import Saying
from farseen.scales import Uneven, scale
from farseen.settled import One, Stretch, settle
from farseen.sizes import SizedFree, SizedOne, SizedStretch, SizeRing, judged_sized, sized_chart_at, sizes
from farseen.stretches import chart_at
from tests.helpers import LIMIT, Case, chance, ratio
from tests.plain_albums import (body_albums, chart_of, chart_rows_at, hinge_ways, is_corner, mixed_albums, moved_by_one, plain_axis, plain_determinant, plain_kind,
                                rows_of)
from tests.plain_sayings import plain_word, sayings_on
from tests.plain_sizes import (enlarged_by, moved_a_place, plain_ring, plain_scale, plain_sized_quarrels, sized_albums, sized_chart, sized_planes, sized_squares,
                               sized_table, sized_three_chart, times_all)
from tests.test_albums import no_albums
from tests.test_axes import ONE, OTHER
from tests.test_scales import SIDE
from tests.test_settled import BAD, CUBE, PLACE, SIDES, TORN
from tests.test_stretches import CORNER, FAR, LINE, SOME_C, no_c

SIZED = Album([ONE, OTHER.times(2), SIDE.turned(1, 1)])
RING = Album([ONE, OTHER, Picture([(0, 0), (0, 0), (3, 0), (0, 6)])])
LONGER, RIGHT = Saying.longer((0, 1), (0, 2)), Saying.right((0, 1), (0, 2))


def no_sayings():
    return [None, True, 0, "", "1 0 1 0 2 just 0", [], [RIGHT], (RIGHT,), Saying, ONE, CORNER, RIGHT.terms]


def right_sized_reason(album, lot):
    """The paper of a quarrel with sizes, by the document."""
    pictures = [album.pictures[number] for number in lot]
    if len(lot) == 1:
        return Thin(lot[0], scale(pictures[0], pictures[0]).row)
    if len(lot) == 2:
        made, pins = plain_scale(*pictures)
        if made is Uneven:
            return Uneven(*lot, pins)
        return Apart(*lot, scale(*pictures).pins)
    if len(lot) == 3 and is_corner(pictures):
        ring = plain_ring(pictures)
        if ring != 1:
            return SizeRing(*lot, ratio(ring))
        return NoCorner(*lot, ratio(plain_determinant(sized_table(pictures))))
    if len(lot) == 3:
        told = hinge_ways(pictures)
        return NoTriangle(*lot, *((None, None) if told is None else map(ratio, told)))
    rows = sized_three_chart(pictures[:3])
    larger = chart_of(times_all(rows, plain_scale(pictures[0], pictures[3])[1]))
    return Misfits(*lot, chart_of(rows), rest(larger, rows_of(pictures[3])))


def right_sizes(album):
    """What `sizes` tells, by plain reckoning."""
    lots = plain_sized_quarrels(album)
    if lots:
        return right_sized_reason(album, lots[0])
    planes, squares = sized_planes(album), sized_squares(album)
    if len(planes) == 1:
        return SizedFree(squares)
    if len(planes) == 2:
        return SizedStretch(squares, planes[0][0], planes[1][0])
    return SizedOne(squares, sized_chart(album))


class SizesTest(Case):

    def check(self, album):
        told, right = sizes(album), right_sizes(album)
        self.assertEqual((told, type(told), bool(told)), (right, type(right), right.word.startswith("sized")), str(album))
        self.assertIs(shows_sizes(album, told), True, (told.word, str(album)))
        return told.word

    def test_small(self):
        self.assertEqual(sizes(SIZED), SizedOne([(1, 1), (4, 1), (2, 1)], CORNER))
        self.assertEqual(sizes(SIZED.picked([1, 0])), SizedStretch([(1, 1), (1, 4)], 0, 1))
        self.assertEqual(sizes(album=RING), SizeRing(0, 1, 2, (8, 5)))
        self.assertEqual(sizes(SIZED.picked([2])), SizedFree([(1, 1)]))
        self.assertEqual((sizes(SIZED).squares, sizes(SIZED).chart, sizes(RING).square), (((1, 1), (4, 1), (2, 1)), CORNER, (8, 5)))
        self.assertEqual(sizes(Album([ONE, ONE.times(2), OTHER.times(-3)])), SizedStretch(((1, 1), (4, 1), (9, 1)), 0, 2))
        self.assertEqual(sizes(Album([ONE, OTHER, LINE, PLACE])), Thin(2, (2, -1)))
        self.assertEqual(sizes(Album([PLACE])), Thin(0, (1, 0)))
        self.assertEqual(sizes(Album(FAR)), Apart(0, 1, (1, 2, 3, 4)))
        self.assertEqual(sizes(Album([OTHER, ONE, Picture([(0, 0), (6, 0), (0, 3), (0, 0)])])), Uneven(1, 2, (1, 1, 2, 2)))
        for album in (SIZED, RING, CUBE, BAD, TORN, Album(SIDES), Album(SIDES[:3])):
            self.check(album)

    def test_all_kinds(self):
        found = Counter(self.check(album) for album in sized_albums(711, 45))
        words = ("sizedfree", "sizedstretch", "sizedone", "thin", "apart", "uneven", "sizering", "nocorner", "notriangle", "misfits")
        self.assertTrue(all(found[word] > 2 for word in words), found)

    def test_bodies_enlarged(self):
        # The squares are those by which the pictures were enlarged, the chart is that of the album, at the size of picture 0.
        dice, found = chance(712), Counter()
        for body, many, album in body_albums(713, 60):
            larger, squares = enlarged_by(dice, album)
            first = scale(album.pictures[0], larger.pictures[0]).square[0]
            told = sizes(larger)
            self.assertTrue(told)
            self.assertEqual(told.squares, tuple(map(ratio, squares)))
            if isinstance(told, SizedOne):
                self.assertEqual(told.chart, Chart([[number * many * many * first for number in row] for row in body.chart().rows]))
            found[(told.word, settle(album).word)] += 1
            found[self.check(moved_a_place(dice, larger))] += 1
        for key in (("sizedone", "one"), ("sizedstretch", "stretch"), ("sizedfree", "free")):
            self.assertGreater(found[key], 3, found)

    def test_as_settled(self):
        # An album is not none's exactly if it is not none's with sizes and all squares are 1.
        found = Counter()
        for album in mixed_albums(714, 40):
            told, own = sizes(album), settle(album)
            self.assertIs(bool(own), bool(told) and set(told.squares) == {(1, 1)})
            if own:
                self.assertEqual(told.word, "sized" + own.word)
                if isinstance(own, One):
                    self.assertEqual(told.chart, own.chart)
                if isinstance(own, Stretch):
                    self.assertEqual((told.one, told.other), own.parts)
            found[(bool(own), bool(told))] += 1
        self.assertTrue(all(found[key] > 3 for key in ((True, True), (False, True), (False, False))), found)

    def test_fours(self):
        # Four unlike planes, each three of which tell a chart, but the four do not; enlarged, too.
        dice, found = chance(715), 0
        for album in (Album(SIDES), Album(SIDES[::-1]), Album(SIDES[1:] + SIDES[:1])):
            for _ in range(5):
                larger, _ = enlarged_by(dice, album)
                told = sizes(larger)
                self.assertIs(type(told), Misfits)
                self.check(larger)
                found += 1
        self.assertEqual(found, 15)

    def test_hinge_scales_fit(self):
        # All three pictures of a hinge tell one row: their scales fit by themselves.
        dice = chance(716)
        for _ in range(10):
            larger, squares = enlarged_by(dice, Album(SIDES[:3]))
            self.assertEqual(sizes(larger).squares, tuple(map(ratio, squares)))
            self.assertEqual(plain_ring(larger.pictures), 1)

    def test_eight_pictures(self):
        dice = chance(717)
        body = Body([[dice.randrange(-9, 10) for _ in range(3)] for _ in range(7)])
        album = body.album([(1, 0, 0, 0), (1, 1, 0, 0), (1, 0, 1, 0), (1, 0, 0, 1), (1, 1, 1, 1), (1, 1, 1, 0), (2, 1, 0, 0), (0, 1, 1, 0)])
        for _ in range(4):
            larger, squares = enlarged_by(dice, album)
            self.assertEqual(sizes(larger).squares, tuple(map(ratio, squares)))
            self.check(larger)
            self.check(moved_by_one(dice, larger))

    def test_errors(self):
        self.fails_for(no_albums(), BadAlbum, ["album"], sizes)


class SizedChartTest(Case):

    def test_chart_at(self):
        self.assertEqual(sized_chart_at(SIZED.picked([0, 1]), (2, 3)), CORNER)
        self.assertEqual(sized_chart_at(album=CUBE.picked([0, 1]), c=[0, 1]), chart_at(ONE, OTHER, (0, 1)))
        found = 0
        for album in sized_albums(721, 10):
            told = sizes(album)
            if not isinstance(told, SizedStretch):
                continue
            one, other = album.pictures[told.one], album.pictures[told.other]
            for c in SOME_C[:4]:
                chart = sized_chart_at(album, c)
                self.assertEqual(chart, chart_of(chart_rows_at(one, other, Fraction(*c))))
                for picture, (number, by) in zip(album.pictures, told.squares):
                    larger = Chart([[number * its for its in row] for row in chart.rows], chart.by * by)
                    self.assertEqual(rest(larger, picture.rows).word, "rest")
            found += 1
        self.assertGreater(found, 5)

    def test_equal_squares(self):
        for album in mixed_albums(722, 15):
            if settle(album).word == "stretch":
                told = settle(album)
                self.assertIs(plain_axis(album.pictures[told.one], album.pictures[told.other])[0], Axis)
                for c in SOME_C[:3]:
                    self.assertEqual(sized_chart_at(album, c), chart_at(album.pictures[told.one], album.pictures[told.other], c))

    def test_errors(self):
        stretch = SIZED.picked([0, 1])
        self.fails_for(no_albums(), BadAlbum, ["album"], lambda value: sized_chart_at(value, None))
        for album in (stretch, SIZED, RING):
            self.fails_for(no_c(), BadRatio, ["c"], lambda value: sized_chart_at(album, value))
        for album in (SIZED, SIZED.picked([0]), RING, Album([LINE]), Album([LINE, ONE]), Album(FAR), Album([ONE, Picture([(0, 0), (6, 0), (0, 3), (0, 0)])]), BAD):
            self.fails(Misfit, ["kind"], sized_chart_at, album, (0, 1))


class JudgedSizedTest(Case):

    def test_small(self):
        self.assertEqual([[judged_sized(album, saying).word for album in (SIZED.picked([0]), SIZED.picked([0, 1]), SIZED)] for saying in (LONGER, RIGHT)],
                         [["open", "never", "never"], ["open", "open", "sure"]])
        self.assertTrue(judged_sized(album=SIZED, saying=RIGHT))

    def test_bodies(self):
        # With number 0 nothing hangs on the sizes: the word is that of the album that was enlarged, whatever its kind.
        dice, found = chance(731), Counter()
        for body, many, album in body_albums(732, 40):
            places = [[many * number for number in row] for row in zip(*body.places)]
            larger, _ = enlarged_by(dice, album)
            for saying in sayings_on(dice, album, 4, places):
                saying = Saying(saying.terms, saying.word, 0)
                word = plain_word(album, saying)
                told = judged_sized(larger, saying)
                self.assertEqual((told.word, judged(album, saying).word), (word, word))
                self.assertIs(shows_judged_sized(larger, saying, told), True)
                if word != "open":
                    self.assertEqual(told.parts, judged(Album(larger.pictures[:1]), saying).parts if plain_kind(album) == "free" else ((),))
                if settle(album).word == settle(larger).word:
                    self.assertEqual(told, judged(larger, saying))
                found[(sizes(larger).word, word)] += 1
        for kind, words in (("sizedfree", ("sure", "open", "never")), ("sizedstretch", ("sure", "open", "never")), ("sizedone", ("sure", "never"))):
            self.assertTrue(all(found[(kind, word)] > 0 for word in words), found)

    def test_errors(self):
        torn = (RING, BAD.with_picture(ONE.times(5)), Album([LINE]), Album([ONE, Picture([(0, 0), (6, 0), (0, 3), (0, 0)])]))
        five = Saying([(1, (0, 4), (0, 1))], "just", 0)
        calls = (judged_sized, lambda album, saying: shows_judged_sized(album, saying, None))
        for call in calls:
            self.fails_for(no_albums(), BadAlbum, ["album"], lambda value: call(value, None))
            for album in (SIZED,) + torn:
                self.fails_for(no_sayings(), BadSaying, ["saying"], lambda value: call(album, value))
                for number in (1, -1, 10 ** 30):
                    self.fails(Misfit, ["number"], call, album, Saying(RIGHT.terms, "above", number))
                    self.fails(Misfit, ["number"], call, album, Saying(five.terms, "above", number))
                self.fails(Misfit, ["pins"], call, album, five)
        for album in torn[:1] + torn[2:]:
            with self.assertRaises(Impossible) as caught:
                judged_sized(album, RIGHT)
            self.assertEqual(caught.exception.paper, sizes(album))
            self.assertFalse(caught.exception.paper)


class GreatNumbersTest(Case):

    def test_nine_digits(self):
        dice = chance(741)
        body = Body([[dice.randrange(-10 ** 5, 10 ** 5) for _ in range(3)] for _ in range(7)])
        album = body.album([(1, 1, 0, 0), (1, 0, 1, 0), (1, 0, 0, 1), (1, 1, 1, 1), (1, -1, 1, 1), (1, 1, 1, 0), (1, 0, 0, 0), (0, 1, 2, 0)])
        larger = Album([picture.times(1 + at % 3) for at, picture in enumerate(album.pictures)])
        told = self.takes_short(sizes, larger)
        self.assertEqual(told.squares, tuple(((1 + at % 3) ** 2, 1) for at in range(8)))
        self.assertTrue(self.takes_short(shows_sizes, larger, told))
        steps = [(step, its) for step, its in zip(itertools.combinations(range(7), 2), itertools.combinations(range(1, 7), 2))][:12]
        saying = Saying([(999999999 - at, step, its) for at, (step, its) in enumerate(steps)], "above", 0)
        for lot in ([0], [0, 1], list(range(8))):
            paper = self.takes_short(judged_sized, larger.picked(lot), saying)
            self.assertTrue(self.takes_short(shows_judged_sized, larger.picked(lot), saying, paper))

    def test_pictures_of_chance(self):
        dice = chance(742)

        def row(most):
            return [dice.randrange(-most, most) for _ in range(7)]
        along, one, other = row(LIMIT), row(10 ** 7), row(10 ** 7)
        ways = [(10, 0), (0, 10), (9, 8), (8, 9), (11, 7), (7, 12), (10, 9), (9, 10)]
        fours = Album([Picture([(c, x * a + y * b) for a, b, c in zip(one, other, along)]) for x, y in ways])
        twos = Album([Picture(list(zip(row(LIMIT), row(LIMIT)))) for _ in range(8)])
        four_pins = Album([Picture(list(zip(row(LIMIT)[:4], row(LIMIT)[:4]))) for _ in range(8)])
        for album in (fours, twos, four_pins):
            told = self.takes_short(sizes, album)
            self.assertFalse(told)
            self.assertTrue(self.takes_short(shows_sizes, album, told))


if __name__ == "__main__":
    unittest.main()
