"""Where a new pin must stand that was seen in some pictures alone."""

import itertools
import unittest
from collections import Counter

from farseen.albums import Album
from farseen.charts import Chart
from farseen.check_fits import shows_new_pin
from farseen.errors import BadAlbum, BadNumber, Impossible, Misfit, TooMany
from farseen.newpins import Anywhere, Line, NoPlace, Place, chart_with, new_pin
from farseen.pictures import Picture
from farseen.points import first_four
from farseen.settled import settle
from tests.helpers import HUGE, LIMIT, Case, chance, fraction, is_plain_row, odd_values, plain_rank
from tests.plain_albums import body_albums, plain_kind, whole
from tests.plain_points import is_spread, mix_equations, not_spread_albums, plain_first_four, plain_new_pin, solution, spread_albums, steps_of
from tests.test_albums import no_albums
from tests.test_points import BOX, NO_PLACES, PLANE, WIDE, fractions_of
from tests.test_settled import BAD, CUBE, SIDES, TORN

ROUND = Album([Picture([(0, 0), (5, 0), (0, 5), (0, 0)]), Picture([(0, 0), (5, 0), (0, 3), (0, 4)]), Picture([(0, 0), (5, 0), (0, 3), (0, -4)])])
CLASSES = {"place": Place, "line": Line, "anywhere": Anywhere, "noplace": NoPlace}


def places_by(album, four, mix):
    """The place in each picture of the pin with this mix, fractions."""
    found = []
    for number, picture in enumerate(album.pictures):
        steps = steps_of(album.picked([number]), four)
        found.append(tuple(picture.places[four[0]][k] + sum(a * b for a, b in zip(steps[k], mix)) for k in range(2)))
    return tuple(found)


def is_on_line(album, told, places):
    """Whether a pin can have these places, fractions, by a mix that is one for all pictures, and those where it was seen."""
    seen = [(place, its) for place, its in zip(told, places) if place is not None]
    if any(tuple(place) != tuple(its) for place, its in seen):
        return False
    return solution(*mix_equations(album, plain_first_four(album), places, range(len(album)))) is not None


def pins_and_places(seed, many):
    """Spread albums, with the places of a pin that was seen in some pictures: right ones, and ones moved by one."""
    dice = chance(seed)
    for album in spread_albums(seed + 1, many):
        for _ in range(3):
            four = plain_first_four(album)
            mix = [dice.randrange(-2, 3) for _ in range(3)]
            places = [tuple(map(int, place)) for place in places_by(album, four, mix)]
            hidden = dice.randrange(len(album) + 1)
            for number in dice.sample(range(len(album)), hidden):
                places[number] = None
            if dice.randrange(2):
                at = dice.randrange(len(album))
                places[at] = places[at] and (places[at][0], places[at][1] + 1)
            yield album, places


class PlacesCase(Case):

    def check_errors(self, call):
        """The errors of an album and places, without Misfit("rank")."""
        self.fails_for(no_albums(), BadAlbum, ["album"], lambda value: call(value, None))
        for album in [WIDE, BAD] + not_spread_albums():
            self.fails_for(NO_PLACES, BadNumber, ["places"], lambda value: call(album, value))
            for value in [value for value in odd_values() if value is not None and value != [0, 0]] + [(0, 0, 0), (0, None), (True, 0), (0, 1.0)]:
                for at in range(4):
                    self.fails(BadNumber, ["places"], call, album, [None] * at + [value] + [(0, 0)] * 6)
            for many in set(range(10)) - {len(album)}:
                self.fails(Misfit, ["pictures"], call, album, [None] * many)
                self.fails(Misfit, ["pictures"], call, album, [(0, 0)] * many)


class NewPinTest(PlacesCase):

    def check(self, album, places):
        told, (word, right) = new_pin(album, places), plain_new_pin(album, places)
        self.assertEqual((told.word, type(told), bool(told)), (word, CLASSES[word], word != "noplace"), (str(album), places))
        self.assertIs(shows_new_pin(album, places, told), True)
        if word == "place":
            self.assertEqual(told.four, plain_first_four(album))
            self.assertEqual(list(map(fraction, told.mix)), right)
            self.assertEqual(fractions_of(told.places), places_by(album, told.four, right))
        elif word == "line":
            self.check_line(album, places, told)
        elif word == "noplace":
            self.assertEqual(told.parts, (right,))
        else:
            self.assertEqual(told.parts, ())
        return word

    def check_line(self, album, places, told):
        self.assertTrue(is_on_line(album, places, fractions_of(told.places)))
        self.assertEqual(len(told.directions), len(album))
        self.assertTrue(all(is_plain_row(direction, 2) for direction in told.directions))
        numbers = [number for direction in told.directions for number in direction]
        self.assertEqual(whole([fraction((number, 1)) for number in numbers]), tuple(numbers))
        gone = tuple(tuple(a + b for a, b in zip(place, direction)) for place, direction in zip(fractions_of(told.places), told.directions))
        self.assertTrue(any(numbers))
        self.assertTrue(is_on_line(album, places, gone))

    def test_new_pins(self):
        found = Counter()
        for album, places in pins_and_places(501, 120):
            word = self.check(album, places)
            self.assertEqual(new_pin(album, [place and list(place) for place in places]), new_pin(album, tuple(places)))
            found[(word, min(4, sum(place is not None for place in places)))] += 1
        for word, many in (("anywhere", 0), ("line", 1), ("line", 2), ("place", 2), ("place", 3), ("place", 4), ("noplace", 2), ("noplace", 3),
                           ("noplace", 4)):
            self.assertGreater(found[(word, many)], 2, found)

    def test_three_that_do_not_meet(self):
        dice, found = chance(503), Counter()
        for places in itertools.product([None, (0, 0), (0, 4), (1, -3), (0, -4)], repeat=3):
            self.check(ROUND, places)
        for _ in range(200):
            places = [(dice.randrange(-1, 2), dice.randrange(-9, 10)) for _ in range(3)]
            told = new_pin(ROUND, places)
            self.check(ROUND, places)
            found[told.parts if told.word == "noplace" else told.word] += 1
        self.assertEqual(new_pin(ROUND, [(0, 0), (0, 4), (0, 4)]), NoPlace((0, 1, 2)))
        self.assertEqual(new_pin(ROUND, [(1, 0), (0, 4), (0, 4)]), NoPlace((0, 1)))
        self.assertEqual(new_pin(ROUND, [(0, 0), (0, 4), (1, 4)]), NoPlace((0, 2)))
        self.assertEqual(new_pin(ROUND, [None, (0, 4), (1, 4)]), NoPlace((1, 2)))
        self.assertGreater(found[((0, 1, 2),)], 0)

    def test_kin_pictures(self):
        # Pictures of one plane leave a line, or nothing.
        album = Album(BOX.pictures + (BOX.pictures[0].mirrored(),))
        self.assertEqual(new_pin(album, [(1, 3), None, None, (-1, 3)]).word, "line")
        self.assertEqual(new_pin(album, [(1, 3), None, None, (1, 3)]), NoPlace((0, 3)))
        self.assertEqual(new_pin(album, [(1, 3), (1, 5), None, (-1, 3)]).word, "place")
        for places in ([(1, 3), None, None, (-1, 3)], [(1, 3), (1, 5), None, (-1, 3)], [(1, 3), (1, 5), (2, 2), (1, 3)]):
            self.check(album, places)

    def test_first_four_is_not_always_the_first(self):
        for places in ([(3, 3), (3, 3)], [(3, 3), None], [None, (2, -5)], [None, None]):
            self.check(PLANE, places)
        self.assertEqual(new_pin(PLANE, [(3, 1), (0, 7)]).parts[:2], ((0, 1, 2, 6), ((0, 1), (0, 1), (1, 1))))

    def test_bodies(self):
        # A pin that is taken out of the album, and seen in two pictures of unlike planes, is where it was.
        dice, found = chance(505), 0
        for body, _, album in body_albums(506, 50):
            left = album.without_pin(body.pins - 1) if body.pins > 4 else album
            if body.pins < 5 or not is_spread(left) or len(left) < 2:
                continue
            places = [picture.places[-1] for picture in album.pictures]
            self.assertEqual(fractions_of(new_pin(left, places).places), tuple(places))
            one = dice.randrange(len(places))
            alone = new_pin(left, [place if number == one else None for number, place in enumerate(places)])
            self.assertIs(type(alone), Line)
            self.assertIs(shows_new_pin(left, [place if number == one else None for number, place in enumerate(places)],
                                        Line([[(number, 1) for number in place] for place in places], alone.directions)), True)
            found += 1
        self.assertGreater(found, 10)

    def test_far(self):
        self.check(BOX, [(HUGE, -HUGE), None, None])
        self.check(BOX, [(HUGE, -HUGE), (HUGE, 1), None])
        self.check(BOX, [(HUGE, -HUGE), (HUGE, 1), (0, 0)])

    def test_errors(self):
        for call in (new_pin, lambda album, places: shows_new_pin(album, places, None)):
            self.check_errors(call)
            for album in not_spread_albums():
                self.fails(Misfit, ["rank"], call, album, [None] * len(album))
                self.fails(Misfit, ["rank"], call, album, [(0, 0)] * len(album))

    def test_great(self):
        dice = chance(507)
        rows = [[dice.randrange(-10 ** 4, 10 ** 4) for _ in range(7)] for _ in range(3)]
        parts = [[[dice.randrange(-30000, 30000) for _ in range(3)] for _ in range(2)] for _ in range(8)]
        album = Album([Picture([tuple(sum(a * row[pin] for a, row in zip(ways, rows)) for ways in two) for pin in range(7)]) for two in parts])
        seven = album.without_pin(6)
        places = [picture.places[6] for picture in album.pictures]
        for told in (places, places[:1] + [None] * 7, places[:7] + [(LIMIT, LIMIT)], [None] * 8):
            self.takes_short(self.check, seven, told)
            self.takes_short(new_pin, album, told)


class ChartWithTest(PlacesCase):

    def test_bodies(self):
        found = Counter()
        for body, scale, album in body_albums(508, 80):
            left = album.without_pin(body.pins - 1) if body.pins > 4 else album
            if body.pins < 5 or plain_rank([list(row) for row in left.rows]) < 3 or plain_kind(left) == "none":
                continue
            places = [picture.places[-1] for picture in album.pictures]
            if plain_kind(left) != "one":
                self.fails(Misfit, ["kind"], chart_with, left, places)
                continue
            own = Chart([[scale * scale * number for number in row] for row in body.chart().rows])
            told = chart_with(album=left, places=places)
            self.assertEqual((told, type(told)), (own, Chart))
            some = places[:2] + [None] * (len(places) - 2)
            its = new_pin(left, some)
            self.assertEqual(chart_with(left, some), own if its.word == "place" else its)
            for some in ([None] * len(places), places[:1] + [None] * (len(places) - 1), [(x + 1, y) for x, y in places[:1]] + places[1:]):
                right = new_pin(left, some)
                if right.word != "place":
                    self.assertEqual((chart_with(left, some), type(chart_with(left, some))), (right, type(right)))
                found[right.word] += 1
        self.assertTrue(all(found[word] > 3 for word in ("anywhere", "line", "noplace")), found)

    def test_ratios(self):
        # Places that no body of integers has: the chart has another number.
        told = chart_with(BOX, [(1, 1), (1, -1), None])
        self.assertEqual(told, Chart([[4, 0, 0, 2], [0, 4, 0, 2], [0, 0, 4, 2], [2, 2, 2, 3]]))
        album = Album([picture.times(3) for picture in ROUND.pictures])
        told = chart_with(album, [(1, 1), None, (1, 1)])
        mix, rows = new_pin(album, [(1, 1), None, (1, 1)]).mix, settle(album).chart.rows
        self.assertEqual(told.within([0, 1, 2, 3]), settle(album).chart)
        for pin in range(1, 4):
            self.assertEqual(fraction(told.product((0, 4), (0, pin))), sum(fraction(part) * rows[k][pin - 1] for k, part in enumerate(mix)))
        self.assertEqual(fraction(told.square((0, 4))), sum(fraction(a) * fraction(b) * rows[k][i] for (k, a), (i, b)
                                                            in itertools.product(enumerate(mix), repeat=2)))

    def test_six_pins_and_seven(self):
        six = Album([Picture(picture.places + ((1, 2), (3, 4))) for picture in CUBE.pictures])
        seven = Album([Picture(picture.places + ((1, 2), (3, 4), (5, 6))) for picture in CUBE.pictures])
        body_six = Album([Picture(picture.places + (picture.places[1], picture.places[2])) for picture in CUBE.pictures])
        self.assertEqual(chart_with(body_six, [picture.places[3] for picture in CUBE.pictures]).pins, 7)
        with self.assertRaises(Impossible):
            chart_with(six, [None] * 3)
        self.fails(TooMany, ["pins", 6], chart_with, seven, [None] * 3)
        self.fails(TooMany, ["pins", 6], chart_with, seven.picked([0]), [(0, 0)])
        self.fails(Misfit, ["pictures"], chart_with, seven, [None] * 2)

    def test_errors(self):
        self.check_errors(chart_with)
        for album in (CUBE.picked([0]), CUBE.picked([0, 1]), Album(SIDES[:2])):
            self.fails(Misfit, ["kind"], chart_with, album, [None] * len(album))
        for album in (BAD, TORN, Album(SIDES)):
            with self.assertRaises(Impossible) as caught:
                chart_with(album, [None] * len(album))
            self.assertEqual(caught.exception.paper, settle(album))
        self.assertEqual(first_four(CUBE), (0, 1, 2, 3))


if __name__ == "__main__":
    unittest.main()
