"""Kinds, reasons, quarrels and corners of albums."""

import itertools
import unittest
from collections import Counter

from farseen.albums import Album
from farseen.axes import Apart, Axis, SamePlane, Thin, Unalike, Unequal, axis
from farseen.bodies import Body
from farseen.charts import Chart, NoRest, rest, solid
from farseen.corners import Corner, Hinge, corner
from farseen.errors import BadAlbum, Impossible, Misfit, NoPicture, Twice
from farseen.pictures import Picture
from farseen.quarrels import quarrels
from farseen.reasons import Misfits, NoCorner, NoTriangle, reason
from farseen.settled import Free, One, Stretch, is_nones, kind, settle
from farseen.struck import fewest_struck, settling
from tests.helpers import HUGE, LIMIT, Case, chance, no_integers, odd_values, plain_determinant, ratio
from tests.plain_albums import (body_albums, chart_of, close_albums, corner_axes, corner_table, hinge_ends, hinge_ways, is_corner, is_thin,
                                lot_is_amiss, mixed_albums, moved_by_one, paired_albums, plain_axis, plain_chart, plain_kind,
                                plain_planes, plain_quarrels, rows_of, three_chart)
from tests.test_albums import no_albums
from tests.test_axes import ONE, OTHER
from tests.test_stretches import CORNER, FAR, LINE, NO_AXIS

CUBE = Album([ONE, OTHER, Picture([(0, 0), (0, 0), (3, 0), (0, 3)])])
SIDES = [Picture([(0, 0), (4, 0), (0, 0), (0, 4)]), Picture([(0, 0), (0, 0), (4, 0), (0, 4)]), Picture([(0, 0), (4, 0), (4, 0), (0, 4)]),
         Picture([(0, 0), (3, 0), (6, 0), (0, 4)])]
BAD = Album([Picture([(0, 0), (4, 3), (0, 5), (0, 0)]), Picture([(0, 0), (4, 3), (0, 0), (0, 5)]), Picture([(0, 0), (0, 0), (4, 3), (0, 5)])])
TORN = Album([ONE, ONE.times(2), OTHER, Picture([(0, 0), (1, 0), (2, 0), (0, 0)])])
PLACE = Picture([[5, 5]] * 4)


def all_albums(seed, many):
    """Albums of all kinds, with quarrels of one, two, three and four."""
    yield from mixed_albums(seed, many)
    yield from close_albums(seed + 1, many)
    yield from paired_albums(seed + 2, many)


def right_reason(album, lot):
    """The paper of a quarrel, by the document, but for what the papers of single pictures and pairs tell."""
    pictures = [album.pictures[number] for number in lot]
    if len(lot) == 1:
        told = axis(pictures[0], pictures[0])
        return Thin(lot[0], told.row)
    if len(lot) == 2:
        told = axis(*pictures)
        return type(told)(*lot, *told.parts[2:])
    if len(lot) == 3 and is_corner(pictures):
        return NoCorner(*lot, plain_determinant(corner_table(corner_axes(pictures))))
    if len(lot) == 3:
        told = hinge_ways(pictures)
        return NoTriangle(*lot, *((None, None) if told is None else map(ratio, told)))
    chart = chart_of(three_chart(pictures[:3]))
    return Misfits(*lot, chart, rest(chart, rows_of(pictures[3])))


class SettleTest(Case):

    def check(self, album):
        """All that is told of the album is what plain reckoning tells; the kind and the first reason's word."""
        lots = plain_quarrels(album)
        self.assertEqual(quarrels(album), lots)
        self.assertEqual(is_nones(album), bool(lots))
        word = plain_kind(album)
        self.assertEqual(kind(album), word)
        told = settle(album)
        if lots:
            right = right_reason(album, lots[0])
            self.assertEqual((told, type(told), bool(told)), (right, type(right), False))
            self.assertEqual(reason(album), right)
            return told.word
        self.assertIsNone(reason(album))
        planes = plain_planes(album)
        right = {"free": Free, "stretch": lambda: Stretch(planes[0][0], planes[1][0]), "one": lambda: One(plain_chart(album))}[word]()
        self.assertEqual((told, type(told), told.word, bool(told)), (right, type(right), word, True))
        return word

    def test_small(self):
        self.assertEqual([kind(album) for album in (CUBE, CUBE.picked([0, 1]), CUBE.picked([2]), BAD, Album(SIDES), Album(SIDES[:3]), TORN)],
                         ["one", "stretch", "free", "none", "none", "one", "none"])
        self.assertEqual(settle(CUBE), One(CORNER))
        self.assertEqual(settle(Album([ONE, ONE.mirrored(), OTHER])), Stretch(0, 2))
        self.assertEqual(reason(BAD), NoCorner(0, 1, 2, -320))
        self.assertEqual(reason(Album([ONE, OTHER, ONE.times(2)])), Unalike(0, 2, 1, 1))
        self.assertEqual(reason(Album(SIDES[:2] + [Picture([(0, 0), (12, 0), (4, 0), (0, 4)])])), NoTriangle(0, 1, 2, (3, 1), (1, 1)))
        self.assertEqual(reason(Album(SIDES[:2] + [Picture([(0, 0), (4, 0), (4, 0), (4, 4)])])), NoTriangle(0, 1, 2, None, None))
        self.assertEqual(quarrels(TORN), ((3,), (0, 1), (1, 2)))
        told = settle(Album(SIDES))
        chart = Chart([[64, 32, 0], [32, 64, 0], [0, 0, 48]], 3)
        self.assertEqual((told, told.paper), (Misfits(0, 1, 2, 3, chart, NoRest((2, 2))), NoRest((2, 2))))
        self.assertEqual(settle(Album(SIDES[:3])), One(chart))
        for album in (CUBE, BAD, TORN, Album(SIDES), Album(SIDES[:3]), Album(FAR), Album([LINE]), Album([PLACE, ONE])):
            self.check(album)

    def test_all_kinds(self):
        told = Counter(self.check(album) for album in all_albums(31, 40))
        for word in ("free", "stretch", "one", "thin", "unalike", "unequal", "nocorner", "notriangle", "misfits", "apart"):
            self.assertGreater(told[word], 0, told)

    def test_determinant_0(self):
        # Three directions in one plane, each two of them unlike: 2 and 2, the third one of the same length.
        found = Counter()
        for album in itertools.chain(paired_albums(32, 60), paired_albums(33, 60)):
            for lot in itertools.combinations(range(len(album)), 3):
                pictures = [album.pictures[number] for number in lot]
                if is_corner(pictures):
                    determinant = plain_determinant(corner_table(corner_axes(pictures)))
                    found[(determinant > 0) - (determinant < 0)] += 1
                    if determinant <= 0:
                        self.assertEqual(reason(Album(pictures)), NoCorner(0, 1, 2, determinant))
        self.assertTrue(all(found[sign] > 0 for sign in (-1, 0, 1)), found)

    def test_flat_triangles(self):
        for x, y in ((1, 0), (2, 1), (3, 1), (1, 1), (-2, 1), (1, -2), (-1, -1)):
            third = Picture([(0, 0), (4 * x, 0), (4 * y, 0), (0, 4)])
            if y and abs(x) + abs(y) > 2:
                self.assertEqual(settle(Album(SIDES[:2] + [third])), NoTriangle(0, 1, 2, (x, 1), (y, 1)))
            else:
                self.check(Album(SIDES[:2] + [third]))

    def test_bodies_and_one_number_moved(self):
        dice = chance(34)
        told, moved = Counter(), Counter()
        for body, scale, album in body_albums(35, 60):
            self.assertFalse(is_nones(album))
            chart = Chart([[number * scale * scale for number in row] for row in body.chart().rows])
            paper = settle(album)
            told[paper.word] += 1
            if isinstance(paper, One):
                self.assertEqual(paper.chart, chart)
                self.assertTrue(solid(chart))
            moved[self.check(moved_by_one(dice, album))] += 1
        self.assertTrue(min(told["one"], told["stretch"]) > 3 and len(moved) > 3, (told, moved))

    def test_eight_pictures(self):
        dice = chance(36)
        body = Body([[dice.randrange(-9, 10) for _ in range(3)] for _ in range(7)])
        album = body.album([(1, 0, 0, 0), (1, 1, 0, 0), (1, 0, 1, 0), (1, 0, 0, 1), (1, 1, 1, 1), (1, 1, 1, 0), (2, 1, 0, 0), (0, 1, 1, 0)])
        self.check(album)
        for _ in range(6):
            self.check(moved_by_one(dice, album))

    def test_with_kin_pictures_more(self):
        for album in itertools.islice(all_albums(37, 20), 0, None, 3):
            if len(album) < 8:
                more = album.with_picture(album.pictures[0].mirrored().turned())
                self.assertEqual(kind(more), kind(album))
                if kind(album) == "one":
                    self.assertEqual(settle(more), settle(album))
                self.check(more)

    def test_errors(self):
        for call in (reason, settle, kind, is_nones, quarrels, fewest_struck, settling):
            self.fails_for(no_albums(), BadAlbum, ["album"], call)


class CornerTest(Case):

    def check(self, album, lot):
        pictures = [album.pictures[number] for number in lot]
        for numbers in itertools.permutations(lot):
            told = corner(album, numbers)
            if is_corner(pictures):
                axes = corner_axes(pictures)
                right = Corner(axes, corner_table(axes))
            else:
                ways = hinge_ways(pictures)
                right = Hinge(hinge_ends(pictures), None if ways is None else [ratio(way) for way in ways])
            self.assertEqual((told, type(told), bool(told)), (right, type(right), True))
        return told.word if told.word == "corner" else (told.word, told.ratios is None)

    def test_small(self):
        axes = (((2, 1), (1, 2)), ((0, 1), (1, 0)), ((1, -1), (-1, 1)))
        self.assertEqual(corner(CUBE, [2, 0, 1]), Corner(axes, ((5, 1, -1), (1, 1, -1), (-1, -1, 2))))
        self.assertEqual([corner(Album(SIDES), lot) for lot in ([0, 1, 2], (3, 0, 1))],
                         [Hinge(((0, 1), (0, 1), (0, 1)), ((1, 1), (1, 1))), Hinge(((0, 1), (0, 1), (0, 1)), ((3, 4), (3, 2)))])
        self.assertEqual(corner(BAD, [0, 1, 2]).products, ((1, 3, 3), (3, 25, -15), (3, -15, 25)))

    def test_many(self):
        told = Counter()
        for album in all_albums(38, 30):
            for lot in itertools.combinations(range(len(album)), 3):
                papers = [plain_axis(album.pictures[a], album.pictures[b])[0] for a, b in itertools.combinations(lot, 2)]
                if papers == [Axis] * 3:
                    told[self.check(album, lot)] += 1
        self.assertTrue(all(told[key] > 3 for key in ("corner", ("hinge", True), ("hinge", False))), told)

    def test_impossible(self):
        told = Counter()
        for album in all_albums(39, 20):
            for lot in itertools.combinations(range(len(album)), 3):
                wrong = [its for size in (1, 2) for its in itertools.combinations(lot, size)
                         if lot_is_amiss(album, its)]
                pictures = [album.pictures[number] for number in lot]
                for numbers in (lot, lot[::-1], list(lot[1:] + lot[:1])):
                    if wrong:
                        with self.assertRaises(Impossible) as caught:
                            corner(album, numbers)
                        its = [its for its in wrong if len(its) == len(wrong[0])][0]
                        self.assertEqual(caught.exception.paper, right_reason(album, its))
                        told[caught.exception.paper.word] += 1
                    elif SamePlane in [plain_axis(a, b)[0] for a, b in itertools.combinations(pictures, 2)]:
                        self.fails(Misfit, ["planes"], corner, album, numbers)
                        told["planes"] += 1
        self.assertTrue(all(told[word] > 0 for word in ("thin", "unalike", "unequal", "apart", "planes")), told)

    def test_errors(self):
        for value in no_albums():
            self.fails(BadAlbum, ["album"], corner, value, None)
        for value in [None, True, 3, "012", {0: 1}, {0, 1, 2}, range(3)]:
            self.fails(NoPicture, [value], corner, CUBE, value)
        for value in no_integers() + [-1, 3, HUGE]:
            for at in range(3):
                numbers = [0, 1, 2]
                numbers[at] = value
                self.fails(NoPicture, [value], corner, CUBE, numbers)
            self.fails(NoPicture, [value], corner, CUBE, (0, 0, value, -7))
        self.fails(NoPicture, [3], corner, CUBE, (0, 3, None))
        self.fails(Twice, [0], corner, CUBE, (0, 1, 0))
        self.fails(Twice, [2], corner, TORN, [3, 2, 2, 3])
        for numbers in ((), (0,), [1, 3], (0, 1, 2, 3), [3]):
            self.fails(Misfit, ["numbers"], corner, TORN, numbers)


class StruckTest(Case):

    def test_small(self):
        self.assertEqual([fewest_struck(TORN), fewest_struck(BAD), fewest_struck(CUBE), fewest_struck(Album([LINE]))], [(1, 3), (0,), (), (0,)])
        self.assertEqual([settling(album) for album in (CUBE, Album([ONE, ONE.mirrored(), OTHER]), CUBE.picked([2]), Album(SIDES[:3]))],
                         [(0, 1, 2), (0, 2), (0,), (0, 1, 2)])
        self.assertEqual(fewest_struck(Album([LINE, PLACE, LINE])), (0, 1, 2))

    def test_many(self):
        told = Counter()
        for album in all_albums(40, 25):
            lots, numbers = plain_quarrels(album), range(len(album))
            right = next(lot for size in range(9) for lot in itertools.combinations(numbers, size)
                         if all(set(lot) & set(its) for its in lots))
            self.assertEqual(fewest_struck(album), right)
            told[len(right)] += 1
            if 0 < len(right) < len(album):
                self.assertFalse(is_nones(album.without(right)))
            if lots:
                with self.assertRaises(Impossible) as caught:
                    settling(album)
                self.assertEqual(caught.exception.paper, settle(album))
                continue
            word = plain_kind(album)
            right = next(lot for size in range(1, 9) for lot in itertools.combinations(numbers, size)
                         if plain_kind(album.picked(lot)) == word)
            self.assertEqual(settling(album), right)
            if word == "one":
                self.assertEqual(settle(album.picked(right)), settle(album))
        self.assertTrue(all(told[size] > 0 for size in range(4)), told)


class GreatNumbersTest(Case):

    def test_nine_digits(self):
        dice = chance(41)
        body = Body([[dice.randrange(-10 ** 6, 10 ** 6) for _ in range(3)] for _ in range(7)])
        album = body.album([(1, 1, 0, 0), (1, 0, 1, 0), (1, 0, 0, 1), (1, 1, 1, 1), (1, -1, 1, 1), (1, 1, 1, 0), (1, 0, 0, 0), (0, 1, 2, 0)])
        self.assertLess(5 * 10 ** 7, max(abs(number) for picture in album.pictures for place in picture.places for number in place))
        told = self.takes_short(settle, album)
        self.assertEqual(told.chart, Chart([[number * 3600 for number in row] for row in body.chart().rows]))
        self.assertEqual(self.takes_short(quarrels, album), ())
        self.assertEqual(self.takes_short(fewest_struck, album), ())
        self.assertEqual(self.takes_short(settling, album), (0, 1, 2))
        moved = album.picked(list(range(7))).with_picture(album.pictures[7].times(2))
        self.assertEqual(self.takes_short(quarrels, moved), plain_quarrels(moved))

    def test_many_quarrels(self):
        dice = chance(42)

        def row(most):
            return [dice.randrange(-most, most) for _ in range(7)]
        along, one, other = row(LIMIT), row(10 ** 7), row(10 ** 7)
        ways = [(10, 0), (0, 10), (9, 8), (8, 9), (11, 7), (7, 12), (10, 9), (9, 10)]
        fours = Album([Picture([(c, x * a + y * b) for a, b, c in zip(one, other, along)]) for x, y in ways])
        threes = Album([Picture(list(zip(along, row(LIMIT)))) for _ in range(8)])
        twos = Album([Picture(list(zip(row(LIMIT), row(LIMIT)))) for _ in range(8)])
        line = row(LIMIT)
        ones = Album([Picture([(x * number // 9, y * (number // 9)) for number in line]) for x, y in ((0, 9), (0, 5), (0, 0), (0, -9))] * 2)
        for album, sizes in ((fours, {3, 4}), (threes, {3}), (twos, {2}), (ones, {1})):
            lots = self.takes_short(quarrels, album)
            self.assertEqual(lots, plain_quarrels(album))
            self.assertEqual({len(lot) for lot in lots}, sizes)
            self.assertTrue(self.takes_short(fewest_struck, album))
            self.assertFalse(self.takes_short(settle, album))

    def test_pins_at_the_bounds(self):
        edge = [Picture([[-LIMIT, LIMIT], [LIMIT, LIMIT], [-LIMIT, -LIMIT], [LIMIT, -LIMIT]]),
                Picture([[LIMIT, LIMIT], [LIMIT, -LIMIT], [-LIMIT, LIMIT], [-LIMIT, -LIMIT]]),
                Picture([[-LIMIT, -LIMIT], [-LIMIT, -LIMIT], [LIMIT, LIMIT], [LIMIT, -LIMIT]])]
        for many in (1, 2, 3):
            self.assertEqual(quarrels(Album(edge[:many])), plain_quarrels(Album(edge[:many])))


if __name__ == "__main__":
    unittest.main()
