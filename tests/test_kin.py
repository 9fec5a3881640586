"""Kin pictures, groups, and which papers on them are right."""

import itertools
import unittest
from fractions import Fraction
from math import gcd

from farseen.albums import Album
from farseen.check_kin import shows_kin
from farseen.errors import BadAlbum, BadPicture, Misfit
from farseen.kin import Kin, NotKin, groups, kin
from farseen.pictures import Picture
from tests.helpers import LIMIT, SQUARE, Case, ShowsCase, bent_parts, chance, odd_values
from tests.test_albums import FIVE, no_albums, no_pictures
from tests.test_pictures import some_pictures

FRONT = Picture([(1, 1), (3, 1), (1, 4), (0, 0)])
LINE = Picture([(0, 0), (1, 0), (2, 0), (0, 0)])
POINT = Picture([(3, 3)] * 4)
TURNS = [(1, 1, 0), (1, 0, 1), (1, -1, 0), (1, 0, -1), (5, 3, 4), (5, -4, 3), (13, 5, -12), (17, -15, -8)]
CLASSES = [(Kin, 2), (NotKin, 2)]


def turned_so(picture, hand, turn):
    """The picture enlarged by by, and this mirrored or not and turned, shifted: two pictures with this Kin."""
    by, x, y = turn
    mirrored = picture.mirrored() if hand == -1 else picture
    return picture.times(by), mirrored.turned(x, y).shifted(7, -5)


def is_kin(one, other, parts):
    """Whether these are the parts of a right Kin, with fractions."""
    hand, turn = parts
    if type(hand) is not int or hand not in (1, -1) or not isinstance(turn, tuple) or len(turn) != 3:
        return False
    if not all(type(number) is int for number in turn) or gcd(*turn) != 1:
        return False
    by, x, y = turn
    if by <= 0 or by * by != x * x + y * y:
        return False
    return all((Fraction(x * hand * a - y * b, by), Fraction(y * hand * a + x * b, by)) == (c, d)
               for a, b, c, d in zip(*one.rows, *other.rows))


def are_apart(one, other, parts):
    if not all(type(pin) is int and 1 <= pin < one.pins for pin in parts):
        return False
    pin, its = parts
    mine, theirs = [sum(row[pin - 1] * row[its - 1] for row in picture.rows) for picture in (one, other)]
    return mine != theirs


class KinTest(Case):

    def test_small(self):
        self.assertEqual(kin(FRONT, FRONT), Kin(1, (1, 1, 0)))
        self.assertEqual(kin(FRONT, FRONT.turned()), Kin(1, (1, 0, 1)))
        self.assertEqual(kin(FRONT, FRONT.mirrored()), Kin(-1, (1, 1, 0)))
        self.assertEqual(kin(FRONT.times(5), FRONT.turned(3, 4)), Kin(1, (5, 3, 4)))
        self.assertEqual(kin(LINE, LINE.mirrored()), Kin(1, (1, -1, 0)))
        self.assertEqual(kin(POINT, POINT.shifted(1, 2)), Kin(1, (1, 1, 0)))
        self.assertEqual(kin(FRONT, FRONT.times(-1)), Kin(1, (1, -1, 0)))
        told = kin(other=FRONT.turned(), one=FRONT)
        self.assertEqual((told.hand, told.turn, bool(told)), (1, (1, 0, 1), True))

    def test_turned(self):
        for picture in some_pictures(50, 60):
            for hand, turn in itertools.product((1, -1), TURNS):
                one, other = turned_so(picture, hand, turn)
                told = kin(one, other)
                self.assertTrue(is_kin(one, other, told.parts))
                if picture.is_thin():
                    self.assertEqual(told.hand, 1)
                else:
                    self.assertEqual(told, Kin(hand, turn))

    def test_thin(self):
        dice = chance(51)
        for _ in range(60):
            step = (dice.randrange(-3, 4), dice.randrange(-3, 4))
            places = [(step[0] * k, step[1] * k) for k in [dice.randrange(-2, 3) for _ in range(4)]]
            for hand, turn in itertools.product((1, -1), TURNS):
                one, other = turned_so(Picture(places), hand, turn)
                told = kin(one, other)
                self.assertTrue(is_kin(one, other, told.parts))
                self.assertEqual(told.hand, 1)
                if not any(any(row) for row in one.rows):
                    self.assertEqual(told, Kin(1, (1, 1, 0)))

    def test_not_kin(self):
        told = kin(FRONT, FRONT.times(2))
        self.assertEqual((told.pin, told.its, bool(told)), (1, 1, False))
        self.assertEqual(kin(POINT, LINE), NotKin(1, 1))
        self.assertEqual(kin(Picture([(0, 0), (1, 0), (2, 0), (0, 3)]), Picture([(0, 0), (1, 0), (2, 0), (3, 0)])), NotKin(1, 3))
        self.assertEqual(kin(Picture([(0, 0), (1, 0), (0, 1), (0, 1)]), Picture([(0, 0), (1, 0), (0, 1), (0, -1)])), NotKin(2, 3))
        self.assertEqual(kin(Picture([(0, 0), (1, 0), (0, 1), (0, 1)]), Picture([(0, 0), (1, 0), (0, 1), (0, 2)])), NotKin(2, 3))
        pictures = list(some_pictures(52, 150, 1))
        for one, other in zip(pictures, pictures[1:]):
            if one.pins == other.pins:
                apart = [pins for pins in itertools.product(range(1, one.pins), repeat=2) if are_apart(one, other, pins)]
                told = kin(one, other)
                if apart:
                    self.assertEqual(told, NotKin(*apart[0]))
                else:
                    self.assertTrue(is_kin(one, other, told.parts))

    def test_greatest(self):
        dice = chance(53)
        places = [(dice.randrange(-10 ** 9, 10 ** 9), dice.randrange(-10 ** 9, 10 ** 9)) for _ in range(7)]
        self.assertEqual(self.takes_short(kin, Picture(places), Picture(places).mirrored().turned()), Kin(-1, (1, 0, 1)))
        edge = Picture([(LIMIT, LIMIT), (-LIMIT, 0), (0, -LIMIT), (LIMIT, -LIMIT)])
        self.assertEqual(kin(edge, edge.turned()), Kin(1, (1, 0, 1)))

    def test_wrong(self):
        for call in (kin, lambda one, other: shows_kin(one, other, None), lambda one, other: shows_kin(one, other, Kin(1, (1, 1, 0)))):
            for value in no_pictures():
                self.fails(BadPicture, ["one"], call, value, FRONT)
                self.fails(BadPicture, ["other"], call, FRONT, value)
                self.fails(BadPicture, ["one"], call, value, value)
            self.fails(Misfit, ["pins"], call, FRONT, FIVE)
            self.fails(Misfit, ["pins"], call, FIVE, FRONT)


class GroupsTest(Case):

    def test_groups(self):
        self.assertEqual(groups(Album([FRONT, FRONT.times(2), FRONT.mirrored()])), ((0, 2), (1,)))
        self.assertEqual(groups(Album([FRONT])), ((0,),))
        self.assertEqual(groups(album=Album([FRONT, FRONT.turned(), FRONT.mirrored(), FRONT.times(-1)])), ((0, 1, 2, 3),))
        mixed = [FRONT, LINE, FRONT.times(2), POINT, LINE.mirrored(), FRONT.turned(), POINT.shifted(1, 1), FRONT.times(-2)]
        self.assertEqual(groups(Album(mixed)), ((0, 5), (1, 4), (2, 7), (3, 6)))

    def test_as_kin_tells(self):
        dice = chance(54)
        pictures = [FRONT, LINE, POINT, FRONT.times(2), Picture(SQUARE), Picture(SQUARE).in_order([0, 2, 1, 3])]
        for _ in range(40):
            lot = [dice.choice(pictures).turned(*dice.choice([(1, 0), (0, 1), (-1, 0)])) for _ in range(dice.randrange(1, 9))]
            told = groups(Album(lot))
            self.assertEqual(sorted(number for group in told for number in group), list(range(len(lot))))
            self.assertEqual(told, tuple(sorted(told)))
            for a, b in itertools.combinations(range(len(lot)), 2):
                self.assertIs(bool(kin(lot[a], lot[b])), any(a in group and b in group for group in told))
            self.assertTrue(all(group == tuple(sorted(group)) for group in told))

    def test_wrong(self):
        self.fails_for(no_albums(), BadAlbum, ["album"], groups)


class ShowsKinTest(ShowsCase):

    def test_only_right_ones(self):
        for hand, turn in itertools.product((1, -1), TURNS):
            one, other = turned_so(FRONT, hand, turn)
            self.shows_no_bent(lambda value: shows_kin(one, other, value), Kin(hand, turn),
                               lambda parts: is_kin(one, other, parts))
            self.shows_not(lambda value: shows_kin(one, other, value), Kin(-hand, turn))
            self.shows_not(lambda value: shows_kin(one, other, value), NotKin(1, 1))
        self.shows_nothing_else(lambda value: shows_kin(FRONT, FRONT.turned(), value), CLASSES)

    def test_small(self):
        self.assertIs(shows_kin(FRONT, FRONT.turned(), Kin(1, [1, 0, 1])), True)
        self.assertIs(shows_kin(FRONT, FRONT.turned(), Kin(1, [2, 0, 2])), False)
        self.assertIs(shows_kin(FRONT, FRONT.turned(), Kin(1, [-1, 0, -1])), False)
        self.assertIs(shows_kin(FRONT, FRONT.times(2), Kin(1, [1, 2, 0])), False)

    def test_thin_ones_have_both_hands(self):
        self.shows(lambda value: shows_kin(LINE, LINE.mirrored(), value), Kin(-1, (1, 1, 0)))
        self.shows(lambda value: shows_kin(LINE, LINE.mirrored(), value), Kin(1, (1, -1, 0)))
        for hand, turn in itertools.product((1, -1), TURNS):
            self.shows(lambda value: shows_kin(POINT, POINT, value), Kin(hand, turn))
        self.shows_no_bent(lambda value: shows_kin(POINT, POINT, value), Kin(-1, (5, 3, -4)),
                           lambda parts: is_kin(POINT, POINT, parts))
        for turn in ((2, 1, 1), (0, 0, 0), (10, 6, 8), (-1, 1, 0), (1, 1, 1), (1, 1), (5, 3, 4, 0)):
            self.shows_not(lambda value: shows_kin(POINT, POINT, value), Kin(1, turn))

    def test_any_pins(self):
        for one, other in ((FRONT, FRONT.times(2)), (FRONT, LINE), (POINT, LINE), (FRONT, Picture([(0, 0), (2, 0), (0, 3), (1, 1)]))):
            told = kin(one, other)
            self.shows_no_bent(lambda value: shows_kin(one, other, value), told, lambda parts: are_apart(one, other, parts))
            for pins in itertools.product(range(-1, 6), repeat=2):
                self.assertIs(shows_kin(one, other, NotKin(*pins)), are_apart(one, other, pins))
            self.shows_nothing_else(lambda value: shows_kin(one, other, value), CLASSES,
                                    [NotKin(1, 1)] if are_apart(one, other, (1, 1)) else [])
        self.assertGreater(len(list(bent_parts((1, 1)))), 20)

    def test_mixed(self):
        pictures = list(some_pictures(55, 100, 1))
        for one, other in zip(pictures, pictures[1:]):
            if one.pins == other.pins:
                self.shows(lambda value: shows_kin(one, other, value), kin(one, other))
        self.assertEqual([shows_kin(FRONT, FRONT, value) for value in odd_values()], [False] * len(odd_values()))


if __name__ == "__main__":
    unittest.main()
