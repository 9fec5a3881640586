"""Which papers on two albums, and on standing ones, are right."""

import itertools
import unittest
from collections import Counter

from farseen.albums import Album
from farseen.axes import Thin, Unalike, Unequal
from farseen.charts import Chart
from farseen.check_settled import shows_settle
from farseen.check_together import shows_faced, shows_standing, shows_together
from farseen.errors import BadAlbum, Misfit, TooMany
from farseen.facings import Faces, NoFacing, faced
from farseen.papers import Denial, Paper
from farseen.pictures import Picture
from farseen.reasons import NoCorner
from farseen.settled import Free, One, Stretch, settle
from farseen.together import Maybe, Parted, Same, together
from farseen.uprights import Leaning, NoAxis, Standing, standing
from tests.helpers import ShowsCase, are_plain, chance, fakes, is_plain_row, odd_values
from tests.plain_albums import both_directions, direction_sum, kin_of, mixed_albums, plain_kind, plain_planes
from tests.test_albums import no_albums
from tests.test_axes import ONE
from tests.test_facings import CUBE, OTHER, in_order, plain_facings
from tests.test_settled import BAD, SIDES, TORN
from tests.test_stretches import LINE
from tests.test_together import BOX, FIVE, FRONT, SIDE, halves
from tests.test_uprights import TALL, right_pins, standing_albums

CLASSES = [(Same, 1), (Maybe, 0), (Parted, 1), (Faces, 1), (NoFacing, 1), (Standing, 3), (NoAxis, 0), (Leaning, 4), (One, 1), (Stretch, 2), (Free, 0), (Thin, 2)]


class ShowsTogetherTest(ShowsCase):

    def test_what_together_tells(self):
        found = Counter()
        for album, other in halves(831, 30):
            if "none" in (plain_kind(album), plain_kind(other)):
                for value in (Maybe(), None, Same(settle(BOX).chart)):
                    self.assertIs(shows_together(album, other, value), False)
                continue
            paper = together(album, other)
            self.shows(lambda value: shows_together(album, other, value), paper)
            found[paper.word] += 1
            whole = Album(album.pictures + other.pictures)
            chart = settle(whole).chart if plain_kind(whole) == "one" else settle(BOX).chart
            for value in (Maybe(), Same(chart), Same(Chart(chart.rows, chart.by + 1)), Parted(settle(whole)), Parted(Thin(0, (1, 0)))):
                self.assertIs(shows_together(album, other, value), value == paper, (value.word, paper.word))
        self.assertTrue(all(found[word] > 3 for word in ("same", "maybe", "parted")), found)

    def test_any_denial(self):
        # Any denial of both together that `shows_settle` takes, also if one album alone is none's.
        first, second = Album([FRONT, SIDE]), Album([FRONT.times(2), SIDE.times(2), FRONT])
        whole, found = Album(first.pictures + second.pictures), Counter()
        for one, other in itertools.product(range(-1, 6), repeat=2):
            for a, b in itertools.product(range(1, 4), repeat=2):
                reason = Unalike(one, other, a, b)
                self.assertIs(shows_together(first, second, Parted(reason)), shows_settle(whole, reason))
                found[shows_settle(whole, reason)] += 1
        self.assertGreater(min(found[True], found[False]), 5)
        self.assertIs(shows_together(BAD, BAD, Parted(settle(BAD))), True)
        self.assertIs(shows_together(BAD, BOX, Parted(NoCorner(2, 0, 1, -320))), True)
        for value in (Free(), Stretch(0, 1), One(settle(BOX).chart), Denial("unalike", 0, 1, 1, 1), None, Maybe(), Parted(settle(BAD))):
            self.assertIs(shows_together(BOX, BOX, Parted(value)), False)
            self.assertIs(shows_together(first, second, Parted(value)), False)
        paper = together(first, Album(second.pictures[:2]))
        for fake in fakes(paper.reason):
            self.assertIs(shows_together(first, Album(second.pictures[:2]), Parted(fake)), False)

    def test_bent(self):
        free, parted = Album([FRONT]), Album([Picture([(0, 0), (1, 0), (0, 3), (0, 0)])])
        for album, other in ((BOX, BOX), (BOX, free), (free, parted), (BOX.picked([0, 1]), free)):
            paper = together(album, other)
            whole = Album(album.pictures + other.pictures)

            def is_right(parts):
                return paper.word == "parted" and isinstance(parts[0], Denial) and shows_settle(whole, parts[0])
            self.shows_no_bent(lambda value: shows_together(album, other, value), paper, is_right)
            self.shows_nothing_else(lambda value: shows_together(album, other, value), CLASSES)
            for value in (settle(whole), Free(), settle(album), Paper("maybe"), Standing((), (), ())):
                self.assertIs(shows_together(album, other, value), False)

    def test_errors(self):
        eight = Album([FRONT] * 8)
        for value in (None, Maybe(), Parted(settle(BAD))):
            self.fails_for(no_albums(), BadAlbum, ["album"], lambda wrong: shows_together(wrong, None, value))
            self.fails_for(no_albums(), BadAlbum, ["other"], lambda wrong: shows_together(BAD, wrong, value))
            self.fails(Misfit, ["pins"], shows_together, BOX, FIVE, value)
            self.fails(TooMany, ["pictures", 8], shows_together, eight, BAD, value)


class ShowsFacedTest(ShowsCase):

    def test_small(self):
        for album, other, told, value, right in ((CUBE, CUBE, [], Faces([0, 3, 2, 1]), True), (CUBE, CUBE, [(1, 2)], Faces([0, 3, 2, 1]), False),
                                                 (BOX, OTHER, [], Faces((3, 0, 1, 2)), True), (BOX, OTHER, [(0, 3)], Faces((3, 0, 1, 2)), True),
                                                 (BOX, OTHER, [], Faces((0, 1, 2, 3)), False), (BOX, OTHER, [], Faces((3, 0, 1)), False),
                                                 (BOX, OTHER, [], Faces((3, 0, 1, 1)), False), (BOX, OTHER, [], NoFacing([]), False),
                                                 (BOX, OTHER, [], NoFacing([settle(BAD)] * 24), False)):
            self.assertIs(shows_faced(album, other, told, value), right, value.parts)
        self.assertIs(shows_faced(album=CUBE, other=CUBE, told=(), value=Faces((0, 1, 2, 3))), True)

    def test_orders(self):
        dice, found = chance(832), Counter()
        for album, other in halves(833, 30):
            if album.pins > 4 or len(album) + len(other) > 6:
                continue
            told = dice.choice(((), [(0, dice.randrange(4))], [(1, 2), (2, 1)]))
            right = plain_facings(album, other, told)
            for order in itertools.permutations(range(4)):
                self.assertIs(shows_faced(album, other, told, Faces(order)), order in right)
                found[order in right] += 1
            if "none" not in (plain_kind(album), plain_kind(other)):
                self.shows(lambda value: shows_faced(album, other, told, value), faced(album, other, told))
        self.assertGreater(min(found[True], found[False]), 20, found)

    def test_reasons(self):
        told = [(0, 0), (1, 2)]
        paper = faced(BOX, OTHER, told)
        orders = [(0, 2, 1, 3), (0, 2, 3, 1)]
        self.assertEqual(paper, NoFacing([settle(Album(BOX.pictures + in_order(OTHER, order).pictures)) for order in orders]))
        self.shows(lambda value: shows_faced(BOX, OTHER, told, value), paper)
        one, other = paper.reasons
        for reasons in ([one], [one, other, other], [], [other, one], [one, None], [None, other], [one, Free()], [one, Parted(other)], None, one):
            right = reasons == [other, one] and shows_settle(Album(BOX.pictures + in_order(OTHER, orders[0]).pictures), other) and shows_settle(
                Album(BOX.pictures + in_order(OTHER, orders[1]).pictures), one)
            self.assertIs(shows_faced(BOX, OTHER, told, NoFacing(reasons)), right)
        # Any such denials: those of other pins, and with the greater number first.
        whole = Album(BOX.pictures + in_order(OTHER, orders[0]).pictures)
        found = Counter()
        for first, second in itertools.permutations(range(6), 2):
            for a, b in itertools.product(range(1, 4), repeat=2):
                reason = Unalike(first, second, a, b)
                self.assertIs(shows_faced(BOX, OTHER, told, NoFacing([reason, other])), shows_settle(whole, reason))
                found[shows_settle(whole, reason)] += 1
        self.assertGreater(min(found[True], found[False]), 0, found)
        for fake in fakes(one):
            self.assertIs(shows_faced(BOX, OTHER, told, NoFacing([fake, other])), False)
        # Of albums that are none's every order has a denial, but no order is one of a body.
        none = NoFacing([settle(Album(BAD.pictures + in_order(BOX, order).pictures)) for order in orders])
        self.assertIs(shows_faced(BAD, BOX, told, none), True)
        self.assertIs(shows_faced(BAD, BOX, told, Faces(orders[0])), False)

    def test_bent(self):
        orders = plain_facings(CUBE, CUBE)

        def is_right(parts):
            return are_plain(parts) and is_plain_row(parts[0], 4) and parts[0] in orders
        self.shows_no_bent(lambda value: shows_faced(CUBE, CUBE, [], value), Faces((0, 1, 2, 3)), is_right)
        self.shows_nothing_else(lambda value: shows_faced(CUBE, CUBE, [], value), CLASSES)
        told = [(0, 0), (1, 2), (2, 3), (3, 1)]
        self.shows_no_bent(lambda value: shows_faced(BOX, OTHER, told, value), faced(BOX, OTHER, told))
        self.shows_nothing_else(lambda value: shows_faced(BOX, OTHER, told, value), CLASSES)


class ShowsStandingTest(ShowsCase):

    def test_small(self):
        parts = ([[1, 0]] * 3, [0, 0, 0, 1], [[0, 2, 1, 0], [0, 1, 2, 0], [0, 3, 3, 0]])
        self.assertIs(shows_standing(TALL, Standing(*parts)), True)
        self.assertIs(shows_standing(album=BOX, value=Leaning(0, 1, 2, (3, 1, 2))), True)
        for value in (Standing([[-1, 0]] * 3, [0, 0, 0, -1], parts[2]), Standing([[2, 0]] * 3, [0, 0, 0, 2], parts[2]), Standing(parts[0], parts[1], parts[2][:2]),
                      Standing(parts[0], parts[1][1:], [row[1:] for row in parts[2]]), NoAxis(), Leaning(0, 1, 2, (1, 2, 3))):
            self.assertIs(shows_standing(TALL, value), False)

    def test_what_standing_tells(self):
        found = Counter()
        for album in itertools.chain(standing_albums(841, 20), mixed_albums(842, 4), (album for pair in halves(843, 6) for album in pair)):
            if plain_kind(album) == "none":
                for value in (NoAxis(), Standing([[1, 0]] * len(album), [0] * album.pins, [[0] * album.pins] * len(album)), settle(album), None,
                              Leaning(0, 1, 2, (1, 2, 3))):
                    self.assertIs(shows_standing(album, value), False)
                continue
            paper = standing(album)
            self.shows(lambda value: shows_standing(album, value), paper)
            found[paper.word] += 1
            self.check_leanings(album)
            self.assertIs(shows_standing(album, NoAxis()), plain_kind(album) == "free")
        self.assertTrue(all(found[word] > 3 for word in ("standing", "noaxis", "leaning")), found)

    def check_leanings(self, album):
        planes, row = plain_planes(album), None
        if len(planes) > 1:
            two = (planes[0][0], planes[1][0])
            pictures = [album.pictures[number] for number in two]
            row = direction_sum(pictures[0], both_directions(*pictures)[0])
        for number in range(-1, len(album) + 1):
            lots = right_pins(album, row, number) if row and 0 <= number < len(album) else []
            for pins in itertools.product(range(0, 4), repeat=3):
                right = tuple(sorted(pins)) in lots
                if row:
                    self.assertIs(shows_standing(album, Leaning(*two, number, pins)), right)
                    self.assertIs(shows_standing(album, Leaning(*two[::-1], number, pins)), False)
                    self.assertIs(shows_standing(album, Leaning(two[0], two[1] + 1, number, pins)), False)
                else:
                    self.assertIs(shows_standing(album, Leaning(0, 1, number, pins)), False)

    def test_any_number(self):
        # The first picture that leans is told, but any such is right.
        album = Album(list(CUBE.pictures) + [kin_of(chance(844), CUBE.pictures[2])])
        self.assertEqual(standing(album).parts, (0, 1, 2, (1, 2, 3)))
        for number, right in ((2, True), (3, True), (0, False), (1, False), (4, False)):
            self.assertIs(shows_standing(album, Leaning(0, 1, number, (2, 3, 1))), right)

    def test_bent(self):
        for album in (TALL, TALL.picked([0, 1]), Album([FRONT]), BOX):
            paper = standing(album)

            def is_right(parts):
                return paper.word == "leaning" and are_plain(parts) and parts[:3] == (0, 1, 2) and parts[3] in itertools.permutations((1, 2, 3))
            self.shows_no_bent(lambda value: shows_standing(album, value), paper, is_right)
            self.shows_nothing_else(lambda value: shows_standing(album, value), CLASSES)

    def test_errors(self):
        for value in (None, NoAxis(), standing(TALL)):
            self.fails_for(no_albums(), BadAlbum, ["album"], lambda wrong: shows_standing(wrong, value))
        for album in (BAD, TORN, Album(SIDES), Album([LINE]), Album([ONE, ONE.times(2)])):
            for value in odd_values() + [NoAxis(), settle(album), Unequal(0, 1, (1, 0), (2, 0))]:
                self.assertIs(shows_standing(album, value), False)


if __name__ == "__main__":
    unittest.main()
