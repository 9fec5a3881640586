"""Standing albums, and those of trays and rows along."""

import itertools
import unittest
from collections import Counter
from fractions import Fraction
from math import lcm

from farseen.albums import Album
from farseen.charts import Chart
from farseen.check_together import shows_standing
from farseen.errors import BadAlbum, BadNumber, BadTray, Impossible, Misfit
from farseen.pictures import Picture
from farseen.settled import settle
from farseen.trays import Tray
from farseen.traysettled import settle_tray
from farseen.uprights import Leaning, NoAxis, Standing, standing, upright
from tests.helpers import LIMIT, Case, chance, odd_values, plain_determinant, plain_rank, primitive_of
from tests.plain_albums import body_albums, both_directions, direction_sum, kin_of, mixed_albums, plain_kind, plain_planes, rows_of, upright_albums
from tests.test_albums import no_albums
from tests.test_axes import ONE
from tests.test_settled import BAD, CUBE, SIDES, TORN
from tests.test_stretches import LINE
from tests.test_together import BOX, FRONT

TALL = upright(Tray([(0, 2, 1, 0), (0, 1, 2, 0), (0, 3, 3, 0)]), [0, 0, 0, 1])


def way_to(picture, row):
    """The two fractions so many times which the rows of the picture make the row, or None."""
    one, other = rows_of(picture)
    if plain_rank([one, other, list(row)]) > 2:
        return None
    a, b = next((a, b) for a, b in itertools.combinations(range(len(one)), 2) if one[a] * other[b] != one[b] * other[a])
    by = one[a] * other[b] - one[b] * other[a]
    return Fraction(row[a] * other[b] - row[b] * other[a], by), Fraction(one[a] * row[b] - one[b] * row[a], by)


def right_standing(album):
    """What `standing` tells of an album that is not none's, by fractions."""
    planes = plain_planes(album)
    if len(planes) == 1:
        return NoAxis()
    one, other = planes[0][0], planes[1][0]
    row = direction_sum(album.pictures[one], both_directions(album.pictures[one], album.pictures[other])[0])
    ways = [way_to(picture, row) for picture in album.pictures]
    if None in ways:
        number = ways.index(None)
        return Leaning(one, other, number, right_pins(album, row, number)[0])
    by = lcm(*[number.denominator for way in ways for number in way])
    numbers = primitive_of([int(number * by) for way in ways for number in way])
    directions = list(zip(numbers[::2], numbers[1::2]))
    along = [0] + direction_sum(album.pictures[0], directions[0])
    across = [[0] + direction_sum(picture, (-y, x)) for picture, (x, y) in zip(album.pictures, directions)]
    return Standing(directions, along, across)


def right_pins(album, row, number):
    """All lots of three pins at which the row and those of a picture have a determinant other than 0."""
    rows = [row] + rows_of(album.pictures[number])
    return [lot for lot in itertools.combinations(range(1, album.pins), 3)
            if plain_determinant([[one[pin - 1] for pin in lot] for one in rows]) != 0]


def standing_albums(seed, many):
    """Upright albums of small rows, not told as such: pictures turned by quarters, mirrored, shifted."""
    dice = chance(seed)
    for _ in range(many):
        pins = dice.randrange(4, 7)
        along, one, other = [[dice.randrange(-3, 4) for _ in range(pins)] for _ in range(3)]
        ways = dice.choice(([(1, 0), (0, 1)], [(1, 0), (0, 1), (1, 1)], [(1, 0), (0, 1), (1, 1), (1, 0)], [(1, 1), (1, 0), (0, 1), (-1, 0)], [(1, 0)] * 2))
        pictures = [Picture([(c, x * a + y * b) for a, b, c in zip(one, other, along)]) for x, y in ways]
        many_times = dice.choice((1, 1, 5))
        if many_times == 5:
            pictures = [picture.turned(*dice.choice(((3, 4), (5, 0), (-4, 3)))) for picture in pictures]
        yield Album([kin_of(dice, picture) for picture in pictures])


class UprightTest(Case):

    def test_small(self):
        self.assertEqual(TALL.pictures[1].places, ((0, 0), (0, 1), (0, 2), (1, 0)))
        self.assertEqual(settle(TALL).chart, Chart([(28, 26, 0), (26, 28, 0), (0, 0, 3)], 3))
        album = upright(tray=Tray([[5, 6, 7, 8]]), along=(-LIMIT, LIMIT, 0, 3))
        self.assertEqual(album, Album([Picture([(-LIMIT, 5), (LIMIT, 6), (0, 7), (3, 8)])]))
        self.assertEqual(upright(Tray([[1] * 7] * 8), [0] * 7).pins, 7)

    def test_kinds(self):
        # If the row along is no sum of the tray's rows, the album has the kind of the tray, and its chart with along added.
        dice, found = chance(821), Counter()
        words = {"trayfree": "free", "traystretch": "stretch", "trayone": "one"}
        for _ in range(300):
            pins = dice.randrange(4, 7)
            one, other = [[dice.randrange(-2, 3) for _ in range(pins)] for _ in range(2)]
            ways = [dice.choice(((1, 0), (0, 1), (1, 1), (-1, 0), (1, -1), (1, 2), (0, 0))) for _ in range(dice.randrange(1, 5))]
            tray = Tray([[x * a + y * b + 3 for a, b in zip(one, other)] for x, y in ways])
            along = [dice.randrange(-2, 3) for _ in range(pins)]
            row = [number - along[0] for number in along[1:]]
            if plain_rank([list(its) for its in tray.rows] + [row]) == plain_rank([list(its) for its in tray.rows]):
                continue
            album, told = upright(tray, along), settle_tray(tray)
            own = settle(album)
            self.assertIs(bool(own), bool(told))
            found[told.word] += 1
            if told:
                self.assertEqual(own.word, words[told.word])
                if told.word != "trayfree":
                    self.assertEqual(standing(album).directions, ((1, 0),) * len(tray))
                    self.assertEqual(standing(album).across, tuple((0,) + its for its in tray.rows))
                    self.assertEqual(standing(album).along, (0,) + tuple(row))
                if told.word == "trayone":
                    right = [[number + told.chart.by * row[a] * row[b] for b, number in enumerate(line)] for a, line in enumerate(told.chart.rows)]
                    self.assertEqual(own.chart, Chart(right, told.chart.by))
        self.assertTrue(all(found[word] > 5 for word in ("trayfree", "traystretch", "trayone", "traythin", "traynotriangle")), found)

    def test_depending_rows(self):
        # A row along that is a sum of the tray's rows, or all 0: the album is what its pictures tell, whatever the tray tells.
        found = Counter()
        for x, y, z in itertools.product(range(-1, 3), range(-1, 3), (0, 1)):
            for rows in ([(0, 2, 1, 0), (0, 1, 2, 0)], [(0, 2, 1, 0), (0, 1, 2, 0), (0, 3, 3, 0)], [(0, 2, 1, 0)], [(0, 1, 2, 3), (0, 2, 4, 6)], [(1, 1, 1, 1)]):
                along = [x * a + y * b + z for a, b in zip(rows[0], rows[-1])]
                album = upright(Tray(rows), along)
                self.assertEqual([picture.places for picture in album.pictures], [tuple(zip(along, row)) for row in rows])
                self.assertEqual(settle(album).word if settle(album) else "none", plain_kind(album))
                found[(settle_tray(Tray(rows)).word, plain_kind(album))] += 1
        self.assertTrue(any(tray == "traystretch" and own == "none" for tray, own in found), found)
        self.assertTrue(all(own == "none" for tray, own in found if tray == "traythin"), found)

    def test_errors(self):
        trays = [value for value in odd_values()] + [[[0, 1, 2, 3]], "0 1 2 3", BOX]
        self.fails_for(trays, BadTray, ["tray"], lambda value: upright(value, None))
        tray, three = Tray([[0, 1, 2, 3]]), Tray([[0, 1, 2]])
        wrong = [value for value in odd_values() if value not in ([], (), [0, 0])]
        for its in (tray, three):
            self.fails_for(wrong, BadNumber, ["along"], lambda value: upright(its, value))
        for number in (None, True, "1", 1.0, [1], LIMIT + 1, -LIMIT - 1):
            for at in range(4):
                row = [0, 1, 2, 3]
                row[at] = number
                self.fails(BadNumber, ["along"], upright, tray, row)
                self.fails(BadNumber, ["along"], upright, three, tuple(row))
        for row in ([], [0], [0, 1, 2], [0, 1, 2, 3, 4], [0] * 8, ()):
            self.fails(Misfit, ["pins"], upright, tray, row)
        for row in ([0, 1, 2], [0, 1, 2, 3]):
            self.fails(Misfit, ["pins"], upright, three, row)


class StandingTest(Case):

    def check(self, album):
        told, right = standing(album), right_standing(album)
        self.assertEqual((told, type(told), bool(told)), (right, type(right), isinstance(right, Standing)), str(album))
        self.assertIs(shows_standing(album, told), True)
        if told:
            sizes = {x * x + y * y for x, y in told.directions}
            self.assertEqual(len(sizes), 1)
            self.check_upright(album, told)
        return told.word

    def check_upright(self, album, told):
        # Enlarged as much as its directions are long, the album is the upright one of its rows across and along.
        for picture, (x, y), row in zip(album.pictures, told.directions, told.across):
            made = list(zip(told.along, row))
            first = picture.places[0]
            turned = [(x * (a - first[0]) + y * (b - first[1]), x * (b - first[1]) - y * (a - first[0])) for a, b in picture.places]
            self.assertEqual(made, turned)

    def test_small(self):
        self.assertEqual(standing(TALL), Standing([[1, 0]] * 3, [0, 0, 0, 1], [[0, 2, 1, 0], [0, 1, 2, 0], [0, 3, 3, 0]]))
        self.assertEqual(standing(album=Album([FRONT])), NoAxis())
        self.assertEqual(standing(BOX), Leaning(0, 1, 2, (1, 2, 3)))
        self.assertEqual((standing(BOX).one, standing(BOX).other, standing(BOX).number, standing(BOX).pins), (0, 1, 2, (1, 2, 3)))
        self.assertEqual(standing(CUBE.picked([0, 1])).directions, ((2, 1), (1, 2)))
        for album in (TALL, BOX, CUBE, CUBE.picked([0, 1]), CUBE.picked([1]), Album(SIDES[:3]), Album([ONE, ONE.mirrored(), CUBE.pictures[1]])):
            self.check(album)

    def test_drawn(self):
        found = Counter()
        albums = [album for _, _, album in body_albums(822, 40)]
        for album in itertools.chain(albums, standing_albums(823, 200), upright_albums(824, 40), itertools.islice(mixed_albums(825, 20), 0, None, 2)):
            if plain_kind(album) == "none":
                with self.assertRaises(Impossible) as caught:
                    standing(album)
                self.assertEqual(caught.exception.paper, settle(album))
                found["none"] += 1
                continue
            found[(plain_kind(album), self.check(album))] += 1
        for key in (("free", "noaxis"), ("stretch", "standing"), ("one", "standing"), ("one", "leaning"), "none"):
            self.assertGreater(found[key], 3, found)

    def test_many_planes(self):
        # The first picture whose plane the axis is not in may be any of eight.
        rows = [(1, 0), (0, 1), (1, 1), (1, 0), (-1, 0), (0, 1), (1, 1), (-1, -1)]
        one, other, along = (0, 2, 1, 0), (0, 1, 2, 0), (0, 0, 0, 1)
        album = Album([Picture([(c, x * a + y * b) for a, b, c in zip(one, other, along)]) for x, y in rows])
        told = standing(album)
        self.assertEqual((told.word, len(told.directions)), ("standing", 8))
        cube = Album([CUBE.pictures[0]] * 3 + [CUBE.pictures[1]] * 4 + [CUBE.pictures[2]])
        self.assertEqual(standing(cube), Leaning(0, 3, 7, (1, 2, 3)))
        self.check(cube)

    def test_errors(self):
        self.fails_for(no_albums(), BadAlbum, ["album"], standing)
        for album in (BAD, TORN, Album(SIDES), Album([LINE]), Album([ONE, ONE.times(2)])):
            with self.assertRaises(Impossible) as caught:
                standing(album)
            self.assertEqual(caught.exception.paper, settle(album))

    def test_nine_digits(self):
        dice = chance(826)

        def row(most):
            return [dice.randrange(-most, most) for _ in range(7)]
        one, other, along = row(LIMIT // 3), row(LIMIT // 3), row(LIMIT)
        tray = Tray([[x * a + y * b for a, b in zip(one, other)] for x, y in ((1, 0), (0, 1), (1, 1), (-1, 0), (1, 0), (0, -1), (-1, -1), (1, 1))])
        album = self.takes_short(upright, tray, along)
        told = self.takes_short(standing, album)
        self.assertEqual(told.directions, ((1, 0),) * 8)
        self.assertTrue(self.takes_short(shows_standing, album, told))


if __name__ == "__main__":
    unittest.main()
