"""Whether papers on new pictures and new pins are right."""

import itertools
import unittest
from collections import Counter
from fractions import Fraction
from unittest import mock

from farseen.albums import Album
from farseen.axes import Thin, Unalike, Unequal
from farseen.charts import Chart, Rest
from farseen.check_settled import shows_settle
from farseen.check_fits import shows_fits, shows_foretold, shows_mix, shows_new_pin
from farseen.errors import Misfit
from farseen.fits import Fits, fits
from farseen.newpins import Anywhere, Line, NoPlace, Place, new_pin
from farseen.pictures import Picture
from farseen.points import Amiss, Foretold, InPlane, Loose, Mix, foretold, mix
from farseen.reasons import Misfits, NoCorner, NoTriangle
from farseen.settled import Free, One, Stretch, settle
from tests import test_newpins, test_points
from tests.helpers import HUGE, ShowsCase, are_plain, fakes, is_plain_ratio, odd_values, ratio
from tests.plain_albums import plain_kind
from tests.plain_points import plain_first_four, mix_equations, solution, steps_of
from tests.test_axes import ONE, OTHER
from tests.test_check_settled import papers_of_lots
from tests.test_fits import albums_and_pictures
from tests.test_newpins import ROUND, is_on_line, pins_and_places
from tests.test_points import BOX, PLANE, TOLD, WIDE
from tests.test_settled import BAD, CUBE, SIDES, TORN
from tests.test_stretches import LINE

CLASSES = [(Fits, 2), (Mix, 1), (InPlane, 1), (Foretold, 1), (Loose, 1), (Amiss, 1), (Place, 3), (Line, 2), (NoPlace, 1), (Free, 0),
           (Stretch, 2), (One, 1), (Rest, 2), (Thin, 2), (Unequal, 4)]
FIVE = Album([Picture(picture.places + ((1, 1),)) for picture in CUBE.pictures[:1]])
KINDS = [(CUBE.picked([0]), ONE.mirrored()), (CUBE.picked([0]), OTHER), (CUBE.picked([0, 1]), CUBE.pictures[2]), (CUBE, ONE), (BOX, BOX.pictures[1])]
DENIED = [(CUBE, LINE), (CUBE, ONE.times(2)), (CUBE.picked([0]), OTHER.times(2)), (BAD.picked([0, 1]), BAD.pictures[2]),
          (Album(SIDES[:2]), Picture([(0, 0), (12, 0), (4, 0), (0, 4)])), (Album(SIDES[:3]), SIDES[3]),
          (FIVE, Picture([(0, 0), (0, 0), (0, 0), (1, 0), (0, 1)]))]


class ShowsFitsTest(ShowsCase):

    def test_what_fits_tells(self):
        found = Counter()
        for album, picture in albums_and_pictures(521, 12):
            if plain_kind(album) == "none":
                continue
            paper = fits(album, picture)
            self.shows(lambda value: shows_fits(album, picture, value), paper)
            found[paper.word] += 1
            whole = album.with_picture(picture)
            kind = plain_kind(whole)
            for made in (Free(), Stretch(0, 1), Stretch(0, len(album)), One(Chart([[9, 0, 0], [0, 9, 0], [0, 0, 9]])), settle(whole), None):
                for rest in (None, Rest((1, 1), (0, 0, 1)), Rest((9, 1), (0, 0, 1))):
                    right = kind != "none" and made == settle(whole) and rest == (paper.rest if kind == "one" else None)
                    self.assertIs(shows_fits(album, picture, Fits(made, rest)), right)
        self.assertGreater(found["fits"], 20)
        self.assertGreater(len(found), 4)

    def test_kinds_bent(self):
        for album, picture in KINDS:
            paper = fits(album, picture)
            self.assertEqual(paper.word, "fits")

            def shown(value):
                return shows_fits(album, picture, value)
            self.shows_no_bent(shown, paper)
            self.shows_nothing_else(shown, CLASSES, [paper])
            for part in (paper.kind, paper.rest):
                for fake in fakes(part) if part is not None else [Rest((1, 1), (0, 0, 1)), ()]:
                    swapped = [fake if one is part else one for one in paper.parts]
                    self.assertIs(shown(Fits(*swapped)), False)
            for other in KINDS:
                self.assertIs(shown(fits(*other)), fits(*other) == paper)
            self.assertIs(shown(paper.kind), False)

    def test_rest(self):
        album, picture = KINDS[2]
        told = fits(album, picture)
        ratio_told, row = told.rest.parts
        for rest in (Rest(ratio_told, [-number for number in row]), Rest((ratio_told[0] * 4, 4), row), Rest(ratio_told, row[:-1]),
                     Rest((1, 1), [3 * number for number in row]), Rest((ratio_told[0] + 1, 1), row)):
            self.assertIs(shows_fits(album, picture, Fits(told.kind, rest)), False)
        for chart in (Chart([[9, 0, 0], [0, 9, 0], [0, 0, 9]], 2), Chart([[9, 0], [0, 9]]), told.kind.chart.rows, None, mock.ANY):
            self.assertIs(shows_fits(album, picture, Fits(One(chart), told.rest)), False)
        # Equal charts made in another way are one chart.
        self.assertIs(shows_fits(album, picture, Fits(One(Chart([[18, 0, 0], [0, 18, 0], [0, 0, 18]], 2)), [ratio_told, row])), False)
        self.assertIs(shows_fits(album, picture, Fits(One(Chart([[18, 0, 0], [0, 18, 0], [0, 0, 18]], 2)), told.rest)), True)

    def test_stretch_as_settle_tells_it(self):
        album, picture = KINDS[1]
        self.assertIs(shows_fits(album, picture, Fits(Stretch(0, 1), None)), True)
        self.assertIs(shows_fits(album, picture, Fits(Stretch(1, 0), None)), False)
        self.assertIs(shows_fits(album, OTHER.mirrored(), Fits(Stretch(0, 1), None)), True)
        self.assertIs(shows_fits(CUBE.picked([0, 1]), OTHER, Fits(Stretch(0, 2), None)), False)

    def test_denials(self):
        found = Counter()
        for album, picture in DENIED:
            whole = album.with_picture(picture)
            paper = fits(album, picture)
            self.assertIs(bool(paper), False)
            self.shows(lambda value: shows_fits(album, picture, value), paper)
            found[paper.word] += 1
            values = list(papers_of_lots(whole)) if len(whole) > 2 else []
            values += [(Thin(number, row), number == len(album) and picture == LINE and row in ((2, -1), (-6, 3)))
                       for number in range(len(whole)) for row in ((2, -1), (-6, 3), (0, 0), (1, 0))]
            for value, right in values:
                self.assertIs(shows_fits(album, picture, value), right, (value.word, value.parts))
                found[(value.word, right)] += 1
            for other in KINDS + DENIED:
                self.assertIs(shows_fits(album, picture, fits(*other)), fits(*other) == paper)
            for kind in (Free(), Stretch(0, 1), settle(album)):
                self.assertIs(shows_fits(album, picture, Fits(kind, None)), False)
                self.assertIs(shows_fits(album, picture, kind), False)
        self.assertEqual(len([word for word in found if isinstance(word, str)]), len(DENIED))
        for word in ("thin", "nocorner", "notriangle", "misfits"):
            self.assertGreater(found[(word, True)], 0, found)
        self.assertIs(shows_fits(CUBE, ONE.times(2), Unalike(3, 0, 2, 2)), True)
        self.assertIs(shows_fits(CUBE, ONE.times(2), Unalike(0, 1, 2, 2)), False)
        self.assertIs(shows_fits(CUBE.picked([0]), OTHER.times(2), Unequal(1, 0, (2, 4), (8, 4))), True)

    def test_denials_bent(self):
        for album, picture in DENIED[:3] + DENIED[6:]:
            whole, paper = album.with_picture(picture), fits(album, picture)

            def is_right(parts):
                return are_plain(parts) and shows_settle(whole, type(paper)(*parts))
            self.shows_no_bent(lambda value: shows_fits(album, picture, value), paper, is_right)

    def test_album_that_is_nones(self):
        # Nothing is raised, and what shows the album with the picture to be none's is right.
        self.assertIs(shows_fits(TORN, ONE, settle(TORN)), True)
        self.assertIs(shows_fits(BAD, BAD.pictures[0], settle(BAD)), True)
        self.assertIs(shows_fits(BAD, BAD.pictures[0], settle(TORN)), False)
        for kind in (Free(), Stretch(0, 1), One(Chart([[9, 0, 0], [0, 9, 0], [0, 0, 9]]))):
            for rest in (None, Rest((9, 1), (0, 0, 1))):
                self.assertIs(shows_fits(BAD, BAD.pictures[0], Fits(kind, rest)), False)
        for value in odd_values():
            self.assertIs(shows_fits(TORN, ONE, value), False)

    def test_great(self):
        eight = Album((BOX.pictures * 3)[:7])
        for made, many in CLASSES + [(NoCorner, 4), (NoTriangle, 5), (Misfits, 6)]:
            self.assertIs(shows_fits(eight, BOX.pictures[0], made(*[HUGE] * many)), False)


class ShowsMixTest(ShowsCase):

    def test_bent(self):
        for album, four, pin in ((WIDE, [0, 1, 2, 3], 4), (WIDE, (4, 3, 2, 1), 0), (BOX, [0, 1, 2, 3], 0), (BOX, [0, 1, 2, 3], 1),
                                 (PLANE, [0, 1, 2, 3], 6), (PLANE, [0, 1, 4, 6], 2), (PLANE, [0, 5, 1, 6], 2), (PLANE, [0, 1, 2, 6], 3)):
            paper = mix(album, four, pin)

            def shown(value):
                return shows_mix(album, four, pin, value)
            self.shows_no_bent(shown, paper)
            self.shows_nothing_else(shown, CLASSES, [paper])
            self.assertIs(shown(InPlane(paper.parts[0])), paper.word == "inplane")
            self.assertIs(shown(Mix(paper.parts[0])), paper.word == "mix")
            if paper.word == "mix":
                self.assertIs(shown(Mix([(2 * number, 2 * by) for number, by in paper.ratios])), False)
            else:
                self.assertIs(shown(InPlane([-number for number in paper.row])), False)
                self.assertIs(shown(InPlane([2 * number for number in paper.row])), False)

    def test_errors(self):
        for paper in (mix(WIDE, [0, 1, 2, 3], 4), None, Mix(None)):
            test_points.MixTest.check_errors(self, lambda album, four, pin: shows_mix(album, four, pin, paper))


class ShowsForetoldTest(ShowsCase):

    def test_bent(self):
        for album, places in ((WIDE, TOLD), (WIDE, [None, (3, 0), (0, 5), (1, 1), (4, 7)]), (WIDE, [(0, 0), (1, 1), None, None, (2, 2)]),
                              (WIDE, [(0, 0), (1, 1), (0, 1), (1, 0), (2, 1)]), (BOX, [None] * 4),
                              (PLANE, [(0, 0), None, None, None, None, (0, 1), None]), (PLANE, [(1, 1), None, (0, 0), None, (1, 1), None, (3, 3)])):
            paper = foretold(album, places)

            def shown(value):
                return shows_foretold(album, places, value)
            self.shows_no_bent(shown, paper)
            self.shows_nothing_else(shown, CLASSES, [paper])
            for made in (Foretold, Loose, Amiss):
                self.assertIs(shown(made(paper.parts[0])), made is type(paper))

    def test_errors(self):
        for paper in (foretold(WIDE, TOLD), None, Loose(None)):
            test_points.ForetoldTest.check_errors(self, lambda album, places: shows_foretold(album, places, paper))


class ShowsNewPinTest(ShowsCase):

    def test_what_new_pin_tells(self):
        for album, places in pins_and_places(522, 15):
            self.shows(lambda value: shows_new_pin(album, places, value), new_pin(album, places))

    def test_bent(self):
        for album, places in ((BOX, [(2, 2), (2, -2), None]), (ROUND, [(0, 0), (0, 4), None]), (BOX, [None] * 3), (PLANE, [(3, 1), (0, 7)])):
            paper = new_pin(album, places)

            def shown(value):
                return shows_new_pin(album, places, value)
            self.shows_no_bent(shown, paper)
            self.shows_nothing_else(shown, CLASSES, [paper])
            self.assertIs(shown(Anywhere()), paper.word == "anywhere")

    def test_lines_bent(self):
        for album, places in ((BOX, [(1, 3), None, None]), (BOX, [None, (5, -1), None]), (PLANE, [None, (5, -1)])):
            paper = new_pin(album, places)

            def is_right(parts):
                points, directions = parts
                return directions == paper.directions and are_plain(directions) and self.are_right(album, places, points)
            self.shows_no_bent(lambda value: shows_new_pin(album, places, value), paper, is_right)
            self.shows_nothing_else(lambda value: shows_new_pin(album, places, value), CLASSES)
            self.check_points(album, places, paper)

    def are_right(self, album, told, points):
        """Whether they are ratios, the places of one point of the line."""
        if not isinstance(points, tuple) or len(points) != len(album):
            return False
        if not all(isinstance(place, tuple) and len(place) == 2 and all(map(is_plain_ratio, place)) for place in points):
            return False
        return is_on_line(album, told, [tuple(Fraction(*number) for number in place) for place in points])

    def check_points(self, album, places, paper):
        for far in (Fraction(0), Fraction(1), Fraction(-7, 3), Fraction(HUGE), Fraction(1, HUGE)):
            points = [[ratio(Fraction(*a) + far * b) for a, b in zip(place, direction)] for place, direction in zip(paper.places, paper.directions)]
            self.assertIs(shows_new_pin(album, places, Line(points, paper.directions)), True)
            self.assertIs(shows_new_pin(album, places, Line(points[::-1], paper.directions)), self.are_right(album, places, tuple(map(tuple, points[::-1]))))
            back = [[-number for number in direction] for direction in paper.directions]
            self.assertIs(shows_new_pin(album, places, Line(points, back)), False)
            self.assertIs(shows_new_pin(album, places, Line(points, [[2 * number for number in direction] for direction in paper.directions])), False)
            for at, k in itertools.product(range(len(points)), range(2)):
                for moved in (Fraction(1), Fraction(1, 2)):
                    bent = [list(map(tuple, place)) for place in points]
                    bent[at][k] = ratio(Fraction(*bent[at][k]) + moved)
                    right = self.are_right(album, places, tuple(map(tuple, bent)))
                    self.assertIs(shows_new_pin(album, places, Line(bent, paper.directions)), right)

    def test_any_lot(self):
        found = Counter()
        albums = [(ROUND, [(0, 0), (0, 4), (0, 4)]), (ROUND, [(1, 0), (0, 4), (0, 4)]), (BOX, [(1, 3), (2, 0), None]), (BOX, [(1, 3), (1, 0), None])]
        for album, places in itertools.chain(albums, itertools.islice(pins_and_places(523, 60), 0, None, 2)):
            four = plain_first_four(album)
            for size in range(0, len(album) + 1):
                for lot in itertools.combinations(range(len(album)), size):
                    right = size > 1 and all(places[number] is not None for number in lot)
                    right = right and solution(*mix_equations(album, four, places, lot)) is None
                    self.assertIs(shows_new_pin(album, places, NoPlace(list(lot))), right)
                    if size > 1:
                        self.assertIs(shows_new_pin(album, places, NoPlace(lot[::-1])), False)
                        self.assertIs(shows_new_pin(album, places, NoPlace(lot + lot[-1:])), False)
                    found[(size, right)] += 1
        self.assertTrue(all(found[(size, True)] > 2 for size in (2, 3, 4)), found)

    def test_lots_bent(self):
        album, places = ROUND, [(1, 0), (0, 4), (0, 4)]
        four = plain_first_four(album)

        def is_right(parts):
            lot = parts[0]
            if lot not in ((0, 1), (0, 2), (1, 2), (0, 1, 2)) or not are_plain(lot):
                return False
            return solution(*mix_equations(album, four, places, lot)) is None
        self.shows_no_bent(lambda value: shows_new_pin(album, places, value), new_pin(album, places), is_right)
        self.shows_nothing_else(lambda value: shows_new_pin(album, places, value), CLASSES)

    def test_errors(self):
        for paper in (new_pin(WIDE, [None] * 2), None, NoPlace(None), NoPlace((0, 1)), Line(None, None)):
            test_newpins.NewPinTest.check_errors(self, lambda album, places: shows_new_pin(album, places, paper))

    def test_line_in_one_place(self):
        # Along the way of looking the line is one place; steps say so.
        told = new_pin(BOX, [(1, 3), None, None])
        self.assertEqual(told.directions[0], (0, 0))
        self.assertEqual(told.places[0], ((1, 1), (3, 1)))
        self.assertEqual(len(steps_of(BOX, (0, 1, 2, 3))), 6)

    def test_not_spread(self):
        # Whatever the value, the arguments raise what new_pin raises for them.
        for value in odd_values() + [Line((), ()), NoPlace((0,)), new_pin(BOX, [None] * 3)]:
            self.fails(Misfit, ["rank"], shows_new_pin, CUBE.picked([0]), [None], value)


if __name__ == "__main__":
    unittest.main()
