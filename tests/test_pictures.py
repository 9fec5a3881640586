"""Pictures: places of pins, turned, mirrored, shifted, and their texts."""

import unittest

from farseen.errors import BadNumber, BadPicture, BadText, Misfit, NoPin, TooMany, Twice
from farseen.pictures import Picture
from tests.helpers import (HUGE, LIMIT, SQUARE, Case, chance, no_integers, no_lists, odd_values, picture_patterns,
                           plain_rank)

FRONT = [(1, 1), (3, 1), (1, 4), (0, 0)]
SEVEN = [(0, 0), (1, 2), (3, -4), (-5, 6), (7, 8), (9, 9), (2, 2)]


def some_pictures(seed, many, most=9):
    dice = chance(seed)
    for _ in range(many):
        yield Picture([(dice.randrange(-most, most + 1), dice.randrange(-most, most + 1)) for _ in range(dice.randrange(4, 8))])


class PictureTest(Case):

    def test_attributes(self):
        front = Picture([list(place) for place in FRONT])
        self.assertEqual((front.places, front.pins, front.rows), (tuple(FRONT), 4, ((2, 0, -1), (0, 3, -1))))
        seven = Picture(places=tuple(SEVEN))
        self.assertEqual((seven.pins, seven.rows[1]), (7, (2, -4, 6, 8, 9, 2)))
        for value in (front.places, front.places[0], front.rows, front.rows[0]):
            self.assertIsInstance(value, tuple)

    def test_equal(self):
        self.assertTrue(Picture(FRONT) == Picture([list(place) for place in FRONT]))
        self.assertFalse(Picture(FRONT) != Picture(FRONT))
        shifted = [(a + 1, b) for a, b in FRONT]
        for other in (shifted, SQUARE, FRONT + [(0, 0)], FRONT[::-1], [(b, a) for a, b in FRONT]):
            self.assertIs(Picture(FRONT) == Picture(other), other == FRONT)
        for value in odd_values() + [tuple(FRONT)]:
            self.assertIs(Picture(FRONT) == value, False)

    def test_wrong_places(self):
        wrong = [value for value in odd_values()]
        wrong += [FRONT[:3], SEVEN + [(0, 0)], [(0, 0, 0)] * 4, [(0,)] * 4, [()] * 4, ["00"] * 4, [{0: 1, 1: 2}] * 4, [{0, 1}] * 4,
                  dict(enumerate(FRONT)), set(FRONT), "0 0 / 1 0 / 0 1 / 1 1"]
        self.fails_for(wrong, BadPicture, ["places"], Picture)
        self.is_no_list_of(FRONT, [value for value in odd_values() if value not in ([0, 0],)], BadPicture, ["places"], Picture)
        for at in range(4):
            for k in range(2):
                for value in no_integers() + [LIMIT + 1, -LIMIT - 1, HUGE]:
                    places = [list(place) for place in SQUARE]
                    places[at][k] = value
                    self.fails(BadPicture, ["places"], Picture, places)
                for value in (LIMIT, -LIMIT):
                    places = [list(place) for place in SQUARE]
                    places[at][k] = value
                    self.assertEqual(Picture(places).places[at][k], value)

    def test_copied(self):
        places = [list(place) for place in FRONT]
        picture = Picture(places)
        places[0][0] = 8
        places.pop()
        self.assertEqual(picture.places, tuple(FRONT))

    def test_products_and_thin(self):
        front = Picture(FRONT)
        self.assertEqual(front.products(), ((4, 0, -2), (0, 9, -3), (-2, -3, 2)))
        self.assertIs(front.is_thin(), False)
        for places, thin in (([(0, 0)] * 4, True), ([(5, 5)] * 7, True), ([(0, 0), (1, 2), (2, 4), (-3, -6)], True),
                             ([(1, 1), (1, 1), (1, 1), (2, 5)], True), ([(0, 3), (0, 1), (0, -2), (0, 0)], True),
                             ([(0, 0), (1, 2), (2, 4), (-3, -5)], False), (SQUARE, False)):
            self.assertIs(Picture(places).is_thin(), thin)
        for picture in some_pictures(20, 100, 2):
            self.assertIs(picture.is_thin(), plain_rank(picture.rows) < 2)
            size = picture.pins - 1
            self.assertEqual(picture.products(), tuple(tuple(
                sum(row[a] * row[b] for row in picture.rows) for b in range(size)) for a in range(size)))


class MovedTest(Case):

    def test_shifted(self):
        self.assertEqual(Picture(FRONT).shifted(2, -3).places, ((3, -2), (5, -2), (3, 1), (2, -3)))
        self.assertEqual(Picture(FRONT).shifted(y=1, x=0).rows, Picture(FRONT).rows)

    def test_turned(self):
        self.assertEqual(Picture(FRONT).turned().places, ((-1, 1), (-1, 3), (-4, 1), (0, 0)))
        self.assertEqual(Picture(FRONT).turned(3, 4).places, ((-1, 7), (5, 15), (-13, 16), (0, 0)))
        self.assertEqual(Picture(FRONT).turned(2), Picture(FRONT).turned(2, 1))
        self.assertEqual(Picture(FRONT).turned(y=0), Picture(FRONT).times(0))
        self.assertEqual(Picture(FRONT).turned(y=-1, x=-2).places[1], (-5, -5))
        for picture in some_pictures(21, 30):
            self.assertEqual(picture.turned(3, -2).products(),
                             tuple(tuple(13 * number for number in row) for row in picture.products()))

    def test_mirrored(self):
        self.assertEqual(Picture(FRONT).mirrored().places, ((-1, 1), (-3, 1), (-1, 4), (0, 0)))
        self.assertEqual(Picture(FRONT).mirrored().mirrored(), Picture(FRONT))

    def test_times(self):
        self.assertEqual(Picture(FRONT).times(-2).places, ((-2, -2), (-6, -2), (-2, -8), (0, 0)))
        self.assertEqual(Picture(FRONT).times(number=0).places, ((0, 0),) * 4)
        self.assertEqual(Picture(FRONT).times(1), Picture(FRONT))

    def test_wrong_numbers(self):
        front = Picture(FRONT)
        for call in (front.shifted, front.turned):
            for value in no_integers():
                self.fails(BadNumber, ["x"], call, value, 1)
                self.fails(BadNumber, ["y"], call, 1, value)
                self.fails(BadNumber, ["x"], call, value, value)
                self.fails(BadNumber, ["y"], call, HUGE, value)
        self.fails_for(no_integers(), BadNumber, ["number"], front.times)

    def test_room(self):
        edge = Picture([(LIMIT, -LIMIT), (0, 0), (-LIMIT, LIMIT), (0, 0)])
        self.assertEqual(edge.shifted(0, 0), edge)
        self.assertEqual(edge.mirrored().places[0], (-LIMIT, -LIMIT))
        self.assertEqual(edge.turned().places[0], (LIMIT, LIMIT))
        self.assertEqual(edge.times(-1).places[0], (-LIMIT, LIMIT))
        for call, args in ((edge.shifted, (1, 0)), (edge.shifted, (0, 1)), (edge.shifted, (-1, 0)), (edge.shifted, (0, -1)),
                           (edge.turned, (1, 1)), (edge.turned, (2, 0)), (edge.times, (2,)), (edge.times, (-2,)),
                           (edge.times, (HUGE,)), (Picture(FRONT).shifted, (HUGE, HUGE))):
            self.fails(TooMany, ["places", LIMIT], call, *args)
        for at in range(4):
            for k in range(2):
                places = [[0, 0] for _ in range(4)]
                places[at][k] = LIMIT // 2
                self.assertEqual(abs(Picture(places).times(-2).places[at][k]), LIMIT)
                places[at][k] += 1
                self.fails(TooMany, ["places", LIMIT], Picture(places).times, -2)

    def test_nothing_changes(self):
        front = Picture(FRONT)
        front.shifted(1, 1)
        front.turned()
        front.mirrored()
        front.times(3)
        front.in_order([3, 2, 1, 0])
        front.with_pin(1, 1)
        self.assertEqual(front, Picture(FRONT))


class PinsTest(Case):

    def test_in_order(self):
        front = Picture(FRONT)
        self.assertEqual(front.in_order([2, 0, 1, 3]).places, ((1, 4), (1, 1), (3, 1), (0, 0)))
        self.assertEqual(front.in_order((0, 1, 2, 3)), front)
        self.assertEqual(Picture(SEVEN).in_order(pins=[6, 5, 4, 3, 2, 1, 0]).places, tuple(SEVEN[::-1]))

    def test_wrong_order(self):
        front = Picture(FRONT)
        for value in no_lists():
            self.fails(NoPin, [value], front.in_order, value)
        for at in range(4):
            for value in no_integers() + [-1, 4, HUGE]:
                pins = [0, 0, 1, 2]
                pins[at] = value
                self.fails(NoPin, [value], front.in_order, pins)
        self.fails(NoPin, [4], front.in_order, [0, 0, 4, 5])
        self.fails(Twice, [1], front.in_order, [0, 1, 1, 0])
        self.fails(Twice, [0], front.in_order, [0, 1, 2, 3, 0])
        for pins in ([], [0, 1, 2], (3,)):
            self.fails(Misfit, ["pins"], front.in_order, pins)
        pins = [3, 2, 1, 0]
        front.in_order(pins)
        self.assertEqual(pins, [3, 2, 1, 0])

    def test_without(self):
        for at in range(7):
            self.assertEqual(Picture(SEVEN).without(at).places, tuple(SEVEN[:at] + SEVEN[at + 1:]))
        for value in no_integers() + [-1, 7, HUGE]:
            self.fails(NoPin, [value], Picture(SEVEN).without, value)
        for at in range(4):
            self.fails(Misfit, ["pins"], Picture(FRONT).without, at)
        self.fails(NoPin, [4], Picture(FRONT).without, 4)
        self.assertEqual(Picture(SEVEN[:5]).without(pin=0).pins, 4)

    def test_with_pin(self):
        self.assertEqual(Picture(FRONT).with_pin(y=-LIMIT, x=LIMIT).places, tuple(FRONT) + ((LIMIT, -LIMIT),))
        self.assertEqual(Picture(SEVEN[:6]).with_pin(2, 2), Picture(SEVEN))
        for value in no_integers() + [LIMIT + 1, -LIMIT - 1, HUGE]:
            for picture in (Picture(FRONT), Picture(SEVEN)):
                self.fails(BadNumber, ["x"], picture.with_pin, value, 0)
                self.fails(BadNumber, ["y"], picture.with_pin, 0, value)
                self.fails(BadNumber, ["x"], picture.with_pin, value, value)
        self.fails(TooMany, ["pins", 7], Picture(SEVEN).with_pin, 0, 0)


class TextTest(Case):

    def test_texts(self):
        self.assertEqual(str(Picture(FRONT)), "1 1 / 3 1 / 1 4 / 0 0")
        for places in (FRONT, SEVEN, SEVEN[:5], [(LIMIT, -LIMIT)] * 4):
            self.assertEqual(Picture.read(str(Picture(places))), Picture(places))
        self.assertEqual(Picture.read(text="1 1 / 3 1 / 1 4 / 0 0").pins, 4)
        self.assertEqual(Picture(FRONT).read(str(Picture(SEVEN))), Picture(SEVEN))

    def test_bent_texts(self):
        for places in (FRONT, SEVEN[:6], SEVEN):
            self.reads_bent(Picture.read, str(Picture(places)), picture_patterns())

    def test_wrong_texts(self):
        for text, item in (("", 0), (" ", 0), ("0", 1), ("0 0", 2), ("0 0 /", 3), ("0 0 / 1 0 / 2 0", 8), ("0 0 / 1 0 / 2 0 /", 9),
                           ("0 0 / 1 0 / 2 0 / 3", 10), ("0 0 / 1 0 / 2 0 / 3 0 /", 12), ("0 0 / 1 0 / 2 0 / 3 0 4", 11),
                           ("0 0 / 1 0 / 2 0 / 3 0 ", 11), (" 0 0 / 1 0 / 2 0 / 3 0", 0), ("0  0 / 1 0 / 2 0 / 3 0", 1),
                           ("0 0 / 1000000001 0 / 2 0 / 3 0", 3), ("0 0 / 1 0 / 2 0 / 3 0 ;", 11), ("0 0 ; 1 0", 2),
                           ("0 0 / 1 0 / 2 0 / 3 0 / 4 0 / 5 0 / 6 0 /", 20), ("0 0 / 1 0 / 2 0 / 3 0 / 4 0 / 5 0 / 6 0 / 7 0", 20)):
            self.fails(BadText, [0, item], Picture.read, text)
        for value in odd_values():
            if not isinstance(value, str):
                self.fails(BadText, [0, 0], Picture.read, value)


if __name__ == "__main__":
    unittest.main()
