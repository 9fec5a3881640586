"""Bodies: turned, mirrored, moved, and photographed."""

import itertools
import unittest
from math import lcm

from farseen.bodies import Body
from farseen.charts import Chart, rest, solid
from farseen.errors import BadBody, BadNumber, Misfit, NoPin, TooMany, Twice
from farseen.pictures import Picture
from tests.helpers import HUGE, LIMIT, Case, chance, no_integers, no_lists, odd_values, plain_rank

CORNER = [[0, 0, 0], [1, 0, 0], [0, 1, 0], [0, 0, 1]]
SEVEN = [(1, 2, 3), (0, 1, -4), (5, -2, 2), (3, 3, 3), (-1, 0, 2), (7, 1, 1), (1, 2, 3)]


def some_bodies(seed, many, most=6):
    dice = chance(seed)
    found = 0
    while found < many:
        places = [[dice.randrange(-most, most + 1) for _ in range(3)] for _ in range(dice.randrange(4, 8))]
        if plain_rank([[place[k] - places[0][k] for place in places[1:]] for k in range(3)]) == 3:
            found += 1
            yield Body(places)


def some_fours(seed, many):
    dice = chance(seed)
    found = [four for four in itertools.product((-1, 0, 1), repeat=4) if any(four)]
    return found[::7] + [[dice.randrange(-9, 10) for _ in range(3)] + [dice.randrange(1, 10)] for _ in range(many)]


def turned_by(four, place):
    """By products of quaternions: the four, the place, the four turned back."""
    def multiplied(p, q):
        a, b, c, d = p
        e, f, g, h = q
        return (a * e - b * f - c * g - d * h, a * f + b * e + c * h - d * g,
                a * g - b * h + c * e + d * f, a * h + b * g - c * f + d * e)
    a, b, c, d = four
    return multiplied(multiplied(four, (0, *place)), (a, -b, -c, -d))[1:]


class BodyTest(Case):

    def test_attributes(self):
        body = Body(SEVEN)
        self.assertEqual((body.places, body.pins), (tuple(SEVEN), 7))
        self.assertEqual(body.rows, ((-1, 4, 2, -2, 6, 0), (-1, -4, 1, -2, -1, 0), (-7, -1, 0, -1, -2, 0)))
        self.assertEqual((Body(places=CORNER).pins, Body(CORNER).rows), (4, ((1, 0, 0), (0, 1, 0), (0, 0, 1))))
        for value in (body.places, Body(CORNER).places[0], body.rows, body.rows[0]):
            self.assertIsInstance(value, tuple)

    def test_equal(self):
        self.assertTrue(Body(SEVEN) == Body([list(place) for place in SEVEN]))
        self.assertFalse(Body(SEVEN) != Body(SEVEN))
        for places in (CORNER, SEVEN[:6], SEVEN[::-1][:6], [(x + 1, y, z) for x, y, z in SEVEN]):
            self.assertIs(Body(SEVEN) == Body(places), False)
        for value in odd_values() + [tuple(SEVEN)]:
            self.assertIs(Body(SEVEN) == value, False)

    def test_wrong_places(self):
        wrong = odd_values() + [CORNER[:3], SEVEN + [(0, 0, 0)], [(0, 0)] * 4, [(0, 0, 0, 0)] * 4, ["000"] * 4, set(SEVEN),
                                dict(enumerate(SEVEN)), [{0: 0, 1: 1, 2: 2}] * 4]
        self.fails_for(wrong, BadBody, ["places"], Body)
        self.is_no_list_of(SEVEN[:4], odd_values(), BadBody, ["places"], Body)
        for at in range(4):
            for k in range(3):
                for value in no_integers() + [LIMIT + 1, -LIMIT - 1, HUGE]:
                    places = [list(place) for place in CORNER]
                    places[at][k] = value
                    self.fails(BadBody, ["places"], Body, places)
                for value in (LIMIT, -LIMIT):
                    places = [list(place) for place in SEVEN]
                    places[at][k] = value
                    self.assertEqual(Body(places).places[at][k], value)

    def test_flat(self):
        for places in ([(0, 0, 0)] * 4, [(1, 2, 3)] * 7, [(0, 0, 0), (1, 0, 0), (0, 1, 0), (1, 1, 0)],
                       [(0, 0, 0), (1, 2, 3), (2, 4, 6), (-1, -2, -3)], [(1, 1, 1), (2, 1, 1), (1, 2, 1), (2, 2, 1), (5, 7, 1)],
                       [(0, 0, 0), (1, 2, 3), (3, 2, 1), (4, 4, 4), (2, 0, -2)]):
            self.fails(BadBody, ["flat"], Body, places)
        self.assertEqual(Body([(1, 1, 1), (2, 1, 1), (1, 2, 1), (2, 2, 2)]).pins, 4)

    def test_copied(self):
        places = [list(place) for place in CORNER]
        body = Body(places)
        places[0][0] = 5
        self.assertEqual(body.places[0], (0, 0, 0))


class SeenTest(Case):

    def test_chart(self):
        self.assertEqual(Body(CORNER).chart(), Chart([[1, 0, 0], [0, 1, 0], [0, 0, 1]]))
        for body in some_bodies(30, 40):
            chart = body.chart()
            self.assertTrue(solid(chart))
            for step, its in itertools.product(itertools.combinations(range(body.pins), 2), repeat=2):
                (a, b), (c, d) = step, its
                right = sum((body.places[b][k] - body.places[a][k]) * (body.places[d][k] - body.places[c][k]) for k in range(3))
                self.assertEqual(chart.product(step, its), (right, 1))

    def test_depths_and_picture(self):
        body = Body(SEVEN)
        self.assertEqual(body.depths(), (-7, -1, 0, -1, -2, 0))
        self.assertEqual(body.seen(), Picture([(x, y) for x, y, _ in SEVEN]))
        told = rest(body.chart(), body.seen().rows)
        self.assertEqual(told.parts, ((1, 1), (7, 1, 0, 1, 2, 0)))


class MovedTest(Case):

    def test_mirrored(self):
        body = Body(SEVEN)
        self.assertEqual(body.mirrored().places, tuple((x, y, -z) for x, y, z in SEVEN))
        self.assertEqual((body.mirrored().mirrored(), body.mirrored().chart()), (body, body.chart()))

    def test_turned(self):
        body = Body(CORNER)
        self.assertEqual(body.turned((1, 1, 0, 0)).places, ((0, 0, 0), (2, 0, 0), (0, 0, 2), (0, -2, 0)))
        self.assertEqual(body.turned([1, 0, 1, 0]).places, ((0, 0, 0), (0, 0, -2), (0, 2, 0), (2, 0, 0)))
        self.assertEqual(body.turned(four=[1, 0, 0, 1]).places, ((0, 0, 0), (0, 2, 0), (-2, 0, 0), (0, 0, 2)))
        self.assertEqual(Body(SEVEN).turned((-1, 0, 0, 0)), Body(SEVEN))
        for four in some_fours(31, 30):
            turned = Body(SEVEN).turned(four)
            size = sum(number * number for number in four)
            self.assertEqual(turned.places, tuple(turned_by(four, place) for place in SEVEN))
            right = [[size * size * number for number in row] for row in Body(SEVEN).chart().rows]
            self.assertEqual(turned.chart(), Chart(right))

    def test_wrong_fours(self):
        body = Body(CORNER)
        wrong = odd_values() + [(0, 0, 0, 0), (1, 2, 3), (1, 2, 3, 4, 5), "1234", {1: 1, 2: 2, 3: 3, 4: 4}, range(1, 5)]
        self.fails_for(wrong, BadNumber, ["four"], body.turned)
        for at in range(4):
            for value in no_integers() + [10, -10, HUGE]:
                four = [1, 2, 3, 4]
                four[at] = value
                self.fails(BadNumber, ["four"], body.turned, four)
                self.fails(BadNumber, ["fours"], body.album, [(1, 0, 0, 0), four])
            for value in (9, -9):
                four = [0, 0, 0, 0]
                four[at] = value
                self.assertEqual(body.turned(four).chart(), Body(CORNER).turned((9, 0, 0, 0)).chart())

    def test_moved(self):
        self.assertEqual(Body(CORNER).moved((1, -2, 3)).places, ((1, -2, 3), (2, -2, 3), (1, -1, 3), (1, -2, 4)))
        self.assertEqual(Body(CORNER).moved(by=[0, 0, 0]), Body(CORNER))
        self.assertEqual(Body(SEVEN).moved((5, 6, 7)).chart(), Body(SEVEN).chart())
        wrong = odd_values() + [(1, 2), (1, 2, 3, 4), "123", {1: 1, 2: 2, 3: 3}]
        self.fails_for(wrong, BadNumber, ["by"], Body(CORNER).moved)
        self.is_no_list_of([1, 2, 3], no_integers(), BadNumber, ["by"], Body(CORNER).moved)

    def test_room(self):
        for k in range(3):
            ahead = [int(at == k) for at in range(3)]
            back = [-number for number in ahead]
            high = Body([[0, 0, 0], [1, 0, 0], [0, 1, 0], [0, 0, 1], [LIMIT * number for number in ahead]])
            low = Body([[0, 0, 0], [1, 0, 0], [0, 1, 0], [0, 0, 1], [LIMIT * number for number in back]])
            self.assertEqual(high.moved(back).places[4][k], LIMIT - 1)
            self.assertEqual(low.moved(ahead).places[4][k], 1 - LIMIT)
            self.assertEqual(high.mirrored().mirrored(), high)
            self.assertEqual(high.turned((0, 1, 0, 0)).chart(), high.chart())
            self.fails(TooMany, ["places", LIMIT], high.moved, ahead)
            self.fails(TooMany, ["places", LIMIT], low.moved, back)
            self.fails(TooMany, ["places", LIMIT], high.turned, (2, 0, 0, 0))
        half = Body([[0, 0, 0], [LIMIT // 2, 0, 0], [0, LIMIT // 2, 0], [0, 0, LIMIT // 2]])
        self.assertEqual(half.turned((1, 1, 0, 0)).places[1], (LIMIT, 0, 0))
        for four in ((1, 1, 1, 1), (2, 0, 0, 0), (2, 1, 0, 0)):
            self.fails(TooMany, ["places", LIMIT], half.turned, four)
        self.fails(TooMany, ["places", LIMIT], Body(CORNER).moved, (HUGE, 0, 0))

    def test_in_order(self):
        body = Body(SEVEN)
        self.assertEqual(body.in_order([6, 5, 4, 3, 2, 1, 0]).places, tuple(SEVEN[::-1]))
        self.assertEqual(body.in_order(pins=(0, 1, 2, 3, 4, 5, 6)), body)
        for value in no_lists():
            self.fails(NoPin, [value], body.in_order, value)
        for value in no_integers() + [-1, 7, HUGE]:
            self.fails(NoPin, [value], body.in_order, [0, 0, value, 9])
        self.fails(Twice, [1], body.in_order, [0, 1, 1, 0])
        self.fails(Twice, [5], body.in_order, [0, 1, 2, 3, 4, 5, 6, 5])
        for pins in ([], [0, 1, 2, 3, 4, 5]):
            self.fails(Misfit, ["pins"], body.in_order, pins)

    def test_nothing_changes(self):
        body, four, by = Body(SEVEN), [1, 2, 3, 4], [1, 1, 1]
        body.turned(four)
        body.moved(by)
        body.mirrored()
        body.album([four])
        self.assertEqual((body, four, by), (Body(SEVEN), [1, 2, 3, 4], [1, 1, 1]))


class AlbumTest(Case):

    def test_albums(self):
        album = Body(CORNER).album([(1, 0, 0, 0), [1, 1, 0, 0]])
        self.assertEqual([picture.places for picture in album.pictures],
                         [((0, 0), (2, 0), (0, 2), (0, 0)), ((0, 0), (2, 0), (0, 0), (0, -2))])
        self.assertEqual(Body(SEVEN).album(fours=[(3, 0, 0, 0)]).pictures[0], Body(SEVEN).turned((3, 0, 0, 0)).seen())
        dice = chance(32)
        fours = some_fours(33, 20)
        for body in some_bodies(34, 20, 3):
            told = [dice.choice(fours) for _ in range(dice.randrange(1, 4))]
            sizes = [sum(number * number for number in four) for four in told]
            common = lcm(*sizes)
            for four, size, picture in zip(told, sizes, body.album(told).pictures):
                right = [[common // size * number for number in turned_by(four, place)[:2]] for place in body.places]
                self.assertEqual(picture, Picture(right))
                chart = Chart([[common * common * number for number in row] for row in body.chart().rows])
                self.assertIn(rest(chart, picture.rows).word, ("rest", "norest"))
                turned = body.turned(four)
                self.assertEqual(bool(rest(chart, picture.rows)), any(turned.depths()))

    def test_greatest(self):
        self.assertEqual(len(Body(CORNER).album([(1, 0, 0, 0)] * 8)), 8)
        self.fails(TooMany, ["pictures", 8], Body(CORNER).album, [(1, 0, 0, 0)] * 9)
        self.fails(BadNumber, ["fours"], Body(CORNER).album, [(1, 0, 0, 0)] * 9 + [None])

    def test_wrong_fours(self):
        body = Body(CORNER)
        self.fails_for(odd_values() + [(1, 0, 0, 0), [(0, 0, 0, 0)], "1", {(1, 0, 0, 0): 1}], BadNumber, ["fours"], body.album)
        self.is_no_list_of([(1, 0, 0, 0), (1, 1, 0, 0), (0, 0, 0, 9)], odd_values() + [(0, 0, 0, 0), (1, 0, 0), (10, 0, 0, 0)],
                           BadNumber, ["fours"], body.album)

    def test_room(self):
        third = Body([[0, 0, 0], [LIMIT // 2, 0, 0], [0, LIMIT // 2, 0], [0, 0, 1]])
        self.assertEqual(third.album([(1, 0, 0, 0), (1, 1, 0, 0)]).pictures[0].places[1], (LIMIT, 0))
        self.fails(TooMany, ["places", LIMIT], third.album, [(1, 0, 0, 0), (1, 1, 1, 0)])
        self.fails(TooMany, ["places", LIMIT], third.album, [(2, 0, 0, 0)])
        self.fails(TooMany, ["pictures", 8], third.album, [(2, 0, 0, 0)] * 9)

    def test_depths_need_no_room(self):
        deep = Body([[0, 0, 0], [1, 0, 0], [0, 1, 0], [0, 0, LIMIT]])
        self.assertEqual(deep.album([(2, 0, 0, 0)]).pictures[0].places, ((0, 0), (4, 0), (0, 4), (0, 0)))
        self.fails(TooMany, ["places", LIMIT], deep.turned, (2, 0, 0, 0))


if __name__ == "__main__":
    unittest.main()
