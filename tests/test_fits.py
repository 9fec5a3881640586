"""Which further pictures can be of a body that has an album."""

import itertools
import unittest
from collections import Counter
from fractions import Fraction

from farseen.albums import Album
from farseen.charts import Rest
from farseen.check_fits import shows_fits
from farseen.errors import BadAlbum, BadPicture, Impossible, Misfit, TooMany
from farseen.fits import Fits, fits
from farseen.pictures import Picture
from farseen.settled import Free, One, Stretch, settle
from tests.helpers import Case, chance, fraction, odd_values, primitive_of
from tests.plain_albums import body_albums, is_thin, kin_of, leaves_rest, moved_by_one, plain_chart, plain_kind, plain_quarrels, rows_of
from tests.plain_sayings import rows_of_chart
from tests.test_albums import no_albums
from tests.test_axes import ONE, OTHER
from tests.test_settled import BAD, CUBE, PLACE, SIDES, TORN
from tests.test_stretches import LINE

FIVE = Picture(ONE.places + ((1, 1),))


def albums_and_pictures(seed, many):
    """Albums of bodies, and pictures: of the body, kin to others, moved by one, enlarged, thin."""
    dice = chance(seed)
    for _, _, album in body_albums(seed + 1, many):
        at = dice.randrange(len(album))
        picture, rest = album.pictures[at], [one for k, one in enumerate(album.pictures) if k != at]
        if not rest:
            rest = [kin_of(dice, picture)]
        rest = Album(rest)
        yield rest, picture
        yield rest, moved_by_one(dice, Album([picture])).pictures[0]
        yield rest, dice.choice(rest.pictures).mirrored()
        yield rest, picture.times(2)
        yield rest, Picture([(dice.randrange(-2, 3), 0) for _ in range(rest.pins)])
        yield rest, Picture([(dice.randrange(-2, 3), dice.randrange(-2, 3)) for _ in range(rest.pins)])


def plain_rest(chart, picture):
    """The ratio and the row that are left of a Chart by the rows of a picture."""
    taken = rows_of(picture)
    size = len(taken[0])
    left = [[number - sum(row[a] * row[b] for row in taken) for b, number in enumerate(line)] for a, line in enumerate(rows_of_chart(chart))]
    head = next(a for a in range(size) if left[a][a])
    by = 1
    for number in left[head]:
        by *= number.denominator
    row = primitive_of([int(number * by) for number in left[head]])
    ratio = left[head][head] / row[head] ** 2
    assert left == [[ratio * row[a] * row[b] for b in range(size)] for a in range(size)]
    return ratio, row


class FitsTest(Case):

    def check(self, album, picture):
        whole = Album(album.pictures + (picture,))
        told = fits(album, picture)
        self.assertIs(shows_fits(album, picture, told), True)
        if plain_quarrels(whole):
            right = settle(whole)
            self.assertEqual((told, type(told), bool(told)), (right, type(right), False))
            return told.word
        word = plain_kind(whole)
        self.assertIs(type(told), Fits)
        self.assertEqual(told.kind, settle(whole))
        self.assertIs(type(told.kind), {"free": Free, "stretch": Stretch, "one": One}[word])
        self.assertEqual((told.word, bool(told), told.parts), ("fits", True, (told.kind, told.rest)))
        if word == "one":
            ratio, row = plain_rest(plain_chart(whole), picture)
            self.assertIs(type(told.rest), Rest)
            self.assertEqual((fraction(told.rest.ratio), told.rest.row), (ratio, row))
        else:
            self.assertIsNone(told.rest)
        return word

    def test_fits(self):
        found = Counter()
        for album, picture in albums_and_pictures(471, 40):
            if plain_kind(album) != "none":
                found[(plain_kind(album), self.check(album, picture))] += 1
        for two in ("free free", "free stretch", "stretch stretch", "stretch one", "one one"):
            self.assertGreater(found[tuple(two.split(" "))], 0, found)
        for before, after in itertools.product(("free", "stretch", "one"), ("unalike", "unequal", "thin")):
            self.assertGreater(found[(before, after)], 0, found)
        self.assertTrue(sum(many for (_, after), many in found.items() if after in ("nocorner", "notriangle", "misfits")) > 0, found)

    def test_each_reason(self):
        wide = Album([Picture(picture.places + ((1, 0),)) for picture in CUBE.pictures[:1]])
        for album, picture, word in ((CUBE, LINE, "thin"), (CUBE, PLACE, "thin"), (CUBE, ONE.times(2), "unalike"),
                                     (wide, Picture([(0, 0), (0, 0), (0, 0), (1, 0), (0, 1)]), "apart"),
                                     (CUBE.picked([0]), OTHER.times(2), "unequal"), (BAD.picked([0, 1]), BAD.pictures[2], "nocorner"),
                                     (Album(SIDES[:2]), Picture([(0, 0), (12, 0), (4, 0), (0, 4)]), "notriangle"),
                                     (Album(SIDES[:2]), Picture([(0, 0), (4, 0), (4, 0), (4, 4)]), "notriangle"),
                                     (Album(SIDES[:3]), SIDES[3], "misfits"), (CUBE.picked([0]), ONE.mirrored(), "free"),
                                     (CUBE.picked([0]), OTHER, "stretch"), (CUBE.picked([0, 1]), CUBE.pictures[2], "one")):
            self.assertEqual(self.check(album, picture), word)
        self.assertEqual(fits(Album(SIDES[:3]), SIDES[3]).parts[:4], (0, 1, 2, 3))
        self.assertEqual(fits(CUBE, ONE.times(2)).parts[:2], (0, 3))

    def test_kind_one(self):
        # A picture fits exactly if it is not thin and leaves a Rest.
        for album, picture in albums_and_pictures(473, 30):
            if plain_kind(album) == "one":
                chart = rows_of_chart(plain_chart(album))
                self.assertIs(bool(fits(album, picture)), not is_thin(picture) and leaves_rest(chart, picture))

    def test_seven_and_eight(self):
        seven = Album([ONE, OTHER, CUBE.pictures[2]] * 2 + [ONE.mirrored()])
        self.assertEqual(self.check(seven, OTHER.turned()), "one")
        self.assertEqual(fits(album=seven, picture=ONE).rest, Rest((9, 1), (0, 0, 1)))
        eight = seven.with_picture(ONE)
        self.fails(TooMany, ["pictures", 8], fits, eight, ONE)
        self.fails(TooMany, ["pictures", 8], fits, Album([PLACE] * 8), ONE)

    def test_errors(self):
        pictures = [value for value in odd_values() if not isinstance(value, Picture)] + [ONE.places, [ONE], str(ONE)]
        eight = Album([PLACE] * 8)
        for call in (fits, lambda album, picture: shows_fits(album, picture, None)):
            self.fails_for(no_albums(), BadAlbum, ["album"], lambda value: call(value, None))
            for album in (CUBE, BAD, eight):
                self.fails_for(pictures, BadPicture, ["picture"], lambda value: call(album, value))
                self.fails(Misfit, ["pins"], call, album, FIVE)
            self.fails(TooMany, ["pictures", 8], call, eight, ONE)
        for album in (BAD, TORN, Album(SIDES), Album([LINE])):
            for picture in (ONE, LINE):
                with self.assertRaises(Impossible) as caught:
                    fits(album, picture)
                self.assertEqual(caught.exception.paper, settle(album))

    def test_ratio(self):
        album = Album(SIDES[:3])
        told = fits(album, SIDES[0].mirrored())
        self.assertEqual(told.kind, settle(album))
        self.assertEqual(fraction(told.rest.ratio) * told.rest.row[0] ** 2, Fraction(64, 3) - 16)


if __name__ == "__main__":
    unittest.main()
