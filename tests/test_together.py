"""Two albums: whether they are of one body."""

import itertools
import unittest
from collections import Counter

from farseen.albums import Album
from farseen.charts import Chart
from farseen.errors import BadAlbum, Impossible, Misfit, TooMany
from farseen.pictures import Picture
from farseen.settled import settle
from farseen.together import Maybe, Parted, Same, together
from tests.helpers import Case, chance
from tests.plain_albums import body_albums, mixed_albums, moved_by_one, plain_chart, plain_kind, plain_quarrels
from tests.test_albums import no_albums
from tests.test_axes import ONE, OTHER
from tests.test_settled import BAD, CUBE, SIDES, TORN
from tests.test_stretches import LINE

FRONT, SIDE = Picture([(0, 0), (1, 0), (0, 2), (0, 0)]), Picture([(0, 0), (0, 0), (2, 0), (0, 3)])
BOX = Album([FRONT, SIDE, Picture([(0, 0), (0, 1), (0, 0), (3, 0)])])
FIVE = Album([Picture(ONE.places + ((1, 1),))])


def right_together(album, other):
    """What `together` tells of two albums that are not none's, by plain reckoning."""
    whole = Album(album.pictures + other.pictures)
    if plain_quarrels(whole):
        return Parted(settle(whole))
    if plain_kind(album) == plain_kind(other) == "one":
        return Same(plain_chart(whole))
    return Maybe()


def halves(seed, many):
    """Two albums of one body each, of a body and one moved by one, of two bodies."""
    dice, last = chance(seed), None
    for _, _, album in body_albums(seed + 1, many):
        pictures = list(album.pictures)
        dice.shuffle(pictures)
        at = dice.randrange(1, len(pictures)) if len(pictures) > 1 else 1
        one, other = Album(pictures[:at]), Album(pictures[at:] or [pictures[0].mirrored()])
        yield one, other
        yield one, moved_by_one(dice, other)
        if len(one) < 5:
            yield one, Album([picture.times(1 + (dice.randrange(4) == 0)) for picture in one.pictures][:3])
        if last is not None and last.pins == one.pins and len(last) + len(one) < 9:
            yield last, one
        last = other


class TogetherTest(Case):

    def check(self, album, other):
        told, right = together(album, other), right_together(album, other)
        self.assertEqual((told, type(told), bool(told)), (right, type(right), not isinstance(right, Parted)))
        if isinstance(told, Same):
            # Each album by itself tells the chart of both.
            self.assertEqual({str(settle(its).chart) for its in (album, other)}, {str(told.chart)})
        return plain_kind(album), plain_kind(other), told.word

    def test_small(self):
        self.assertEqual(together(BOX, BOX), Same(Chart([(1, 0, 0), (0, 4, 0), (0, 0, 9)])))
        self.assertEqual(together(BOX, Album([FRONT.mirrored()])), Maybe())
        told = together(album=Album([FRONT]), other=Album([Picture([(0, 0), (1, 0), (0, 3), (0, 0)])]))
        self.assertEqual((told.word, bool(told), told.reason.word, told.reason.parts), ("parted", False, "unalike", (0, 1, 2, 2)))
        self.assertEqual(together(CUBE, Album(SIDES[:3])).reason, settle(Album(CUBE.pictures + tuple(SIDES[:3]))))
        self.assertEqual(together(CUBE, CUBE.picked([2, 1, 0])), Same(settle(CUBE).chart))

    def test_drawn(self):
        found = Counter()
        for album, other in halves(801, 60):
            if plain_kind(album) != "none" and plain_kind(other) != "none":
                found[self.check(album, other)] += 1
                found[self.check(other, album)] += 1
            else:
                self.refuses(album, other)
                found["none"] += 1
        for one, other in itertools.product(("free", "stretch", "one"), repeat=2):
            word = "same" if one == other == "one" else "maybe"
            self.assertGreater(found[(one, other, word)], 0, (one, other, found))
        self.assertGreater(found["none"], 3)
        self.assertGreater(sum(many for key, many in found.items() if key[2] == "parted"), 10, found)

    def refuses(self, album, other):
        first = album if plain_kind(album) == "none" else other
        with self.assertRaises(Impossible) as caught:
            together(album, other)
        self.assertEqual(caught.exception.paper, settle(first))
        self.assertFalse(caught.exception.paper)

    def test_none(self):
        for album, other in ((BAD, CUBE), (CUBE, BAD), (BAD, TORN), (TORN, BAD), (Album([LINE]), CUBE), (CUBE, Album([LINE])), (Album(SIDES), CUBE)):
            self.refuses(album, other)
        for album in itertools.islice(mixed_albums(802, 10), 0, None, 2):
            if len(album) < 5 and plain_kind(album) == "none":
                self.refuses(album, album)

    def test_mirrored(self):
        # From far away nobody tells a body from the mirrored one.
        for body, many, album in body_albums(803, 15, 4):
            its = body.mirrored().album([(1, 0, 0, 0), (1, 1, 0, 0), (1, 0, 1, 0)])
            larger = Album([picture.times(many) for picture in its.pictures])
            own = Album([picture.times(2) for picture in album.pictures])
            self.assertTrue(together(own, larger))

    def test_eight(self):
        four = Album(BOX.pictures + (FRONT,))
        self.assertEqual(together(four, four).word, "same")
        self.assertEqual(together(BOX, Album([OTHER])).word, "parted")

    def test_errors(self):
        self.fails_for(no_albums(), BadAlbum, ["album"], lambda value: together(value, None))
        eight = Album([FRONT] * 8)
        for album in (BOX, BAD, eight):
            self.fails_for(no_albums(), BadAlbum, ["other"], lambda value: together(album, value))
            self.fails(Misfit, ["pins"], together, album, FIVE)
            self.fails(Misfit, ["pins"], together, FIVE, album)
        self.fails(Misfit, ["pins"], together, eight, Album(FIVE.pictures * 8))
        for album, other in ((eight, BOX), (BOX, eight), (BAD, eight), (Album([LINE] * 4), Album([LINE] * 5)), (Album([FRONT] * 7), Album([SIDE] * 2))):
            self.fails(TooMany, ["pictures", 8], together, album, other)


if __name__ == "__main__":
    unittest.main()
