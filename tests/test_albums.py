"""Albums: pictures of the same pins, and their texts."""

import unittest

from farseen.albums import Album
from farseen.errors import BadAlbum, BadPicture, BadText, Misfit, NoPicture, NoPin, TooMany, Twice
from farseen.pictures import Picture
from tests.helpers import HUGE, LIMIT, SQUARE, Case, album_patterns, no_integers, no_lists, odd_values

FRONT = Picture([(1, 1), (3, 1), (1, 4), (0, 0)])
FIVE = Picture(SQUARE + [(5, 5)])
SEVEN = Picture([(0, 0), (1, 2), (3, -4), (-5, 6), (7, 8), (9, 9), (2, 2)])
THREE = [FRONT, FRONT.times(2), FRONT.mirrored()]


def no_pictures():
    return [value for value in odd_values() if not isinstance(value, Picture)]


def no_albums():
    return [value for value in odd_values() if not isinstance(value, Album)] + [THREE]


class AlbumTest(Case):

    def test_attributes(self):
        album = Album(THREE)
        self.assertEqual((album.pictures, album.pins, len(album)), (tuple(THREE), 4, 3))
        self.assertEqual(album.rows, ((2, 0, -1), (0, 3, -1), (4, 0, -2), (0, 6, -2), (-2, 0, 1), (0, 3, -1)))
        self.assertIsInstance(album.rows, tuple)
        self.assertEqual((len(Album([SEVEN])), Album(pictures=(SEVEN,)).pins, len(Album([FRONT] * 8))), (1, 7, 8))

    def test_equal(self):
        self.assertTrue(Album(THREE) == Album(tuple(THREE)))
        self.assertFalse(Album(THREE) != Album(THREE))
        for other in (THREE[::-1], THREE[:2], THREE + [FRONT], [SEVEN]):
            self.assertIs(Album(THREE) == Album(other), False)
        for value in odd_values() + [THREE, tuple(THREE)]:
            self.assertIs(Album(THREE) == value, False)

    def test_wrong_pictures(self):
        self.fails_for(odd_values() + [FRONT, {0: FRONT}, str(FRONT), {"a"}], BadAlbum, ["pictures"], Album)
        self.is_no_list_of(THREE, no_pictures(), BadAlbum, ["pictures"], Album)
        self.is_no_list_of([FRONT, FIVE][:1], no_pictures(), BadAlbum, ["pictures"], Album)
        self.fails(BadAlbum, ["pictures"], Album, [FRONT] * 8 + [None])
        self.fails(BadAlbum, ["pictures"], Album, [FRONT, FIVE, None])
        self.fails(Misfit, ["pins"], Album, [FRONT, FIVE])
        self.fails(Misfit, ["pins"], Album, [FRONT] * 8 + [FIVE])
        self.fails(Misfit, ["pins"], Album, [FIVE] * 2 + [FRONT])
        self.fails(TooMany, ["pictures", 8], Album, [FRONT] * 9)

    def test_copied(self):
        pictures = list(THREE)
        album = Album(pictures)
        pictures.pop()
        self.assertEqual(len(album), 3)
        self.assertEqual(len(pictures), 2)


class MorePicturesTest(Case):

    def test_with_picture(self):
        album = Album(THREE)
        self.assertEqual(album.with_picture(FRONT).pictures, tuple(THREE) + (FRONT,))
        self.assertEqual(album.with_picture(picture=FRONT), album.joined(Album([FRONT])))
        self.fails_for(no_pictures(), BadPicture, ["picture"], album.with_picture)
        self.fails(Misfit, ["pins"], album.with_picture, FIVE)
        self.fails(Misfit, ["pins"], Album([FRONT] * 8).with_picture, FIVE)
        self.fails(TooMany, ["pictures", 8], Album([FRONT] * 8).with_picture, FRONT)
        self.assertEqual(len(Album([FRONT] * 7).with_picture(FRONT)), 8)
        self.assertEqual(album, Album(THREE))

    def test_joined(self):
        album = Album(THREE)
        self.assertEqual(album.joined(Album([FRONT, FRONT.times(3)])).pictures, (*THREE, FRONT, FRONT.times(3)))
        self.assertEqual(album.joined(other=album), Album(THREE * 2))
        self.fails_for(no_albums(), BadAlbum, ["other"], album.joined)
        self.fails(Misfit, ["pins"], album.joined, Album([FIVE]))
        self.fails(Misfit, ["pins"], album.joined, Album([FIVE] * 8))
        self.fails(TooMany, ["pictures", 8], album.joined, Album([FRONT] * 6))
        self.assertEqual(len(album.joined(Album([FRONT] * 5))), 8)
        self.assertEqual(album, Album(THREE))

    def test_picked(self):
        album = Album(THREE)
        self.assertEqual(album.picked([2, 0]).pictures, (THREE[2], THREE[0]))
        self.assertEqual(album.picked((0, 1, 2)), album)
        self.assertEqual(album.picked(numbers=[1]), Album([THREE[1]]))
        self.fails(BadAlbum, ["pictures"], album.picked, [])

    def test_without(self):
        album = Album(THREE)
        self.assertEqual(album.without([1]).pictures, (THREE[0], THREE[2]))
        self.assertEqual(album.without((2, 0)).pictures, (THREE[1],))
        self.assertEqual(album.without(numbers=[]), album)
        for numbers in ([0, 1, 2], (2, 0, 1)):
            self.fails(BadAlbum, ["pictures"], album.without, numbers)
        self.assertEqual(album, Album(THREE))

    def test_wrong_numbers(self):
        album = Album(THREE)
        for call in (album.picked, album.without):
            for value in no_lists():
                self.fails(NoPicture, [value], call, value)
            for at in range(4):
                for value in no_integers() + [-1, 3, HUGE]:
                    numbers = [0, 0, 1, 2]
                    numbers[at] = value
                    self.fails(NoPicture, [value], call, numbers)
            self.fails(NoPicture, [5], call, [0, 0, 5, 6])
            self.fails(Twice, [1], call, [0, 1, 1, 0])
            self.fails(Twice, [2], call, [0, 1, 2, 2])
            numbers = [2, 1]
            call(numbers)
            self.assertEqual(numbers, [2, 1])


class PinsTest(Case):

    def test_in_order(self):
        album = Album(THREE)
        self.assertEqual(album.in_order([2, 1, 0, 3]).pictures, tuple(one.in_order([2, 1, 0, 3]) for one in THREE))
        self.assertEqual(album.in_order(pins=(0, 1, 2, 3)), album)
        for value in no_lists():
            self.fails(NoPin, [value], album.in_order, value)
        for value in no_integers() + [-1, 4, HUGE]:
            self.fails(NoPin, [value], album.in_order, [0, 0, value, 9])
        self.fails(Twice, [1], album.in_order, [0, 1, 1, 0])
        self.fails(Misfit, ["pins"], album.in_order, [0, 1, 2])
        self.fails(Misfit, ["pins"], album.in_order, [])

    def test_without_pin(self):
        album = Album([FIVE, FIVE.times(2)])
        self.assertEqual(album.without_pin(4).pictures, (Picture(SQUARE), Picture(SQUARE).times(2)))
        self.assertEqual(album.without_pin(pin=0).pictures, tuple(one.without(0) for one in album.pictures))
        for value in no_integers() + [-1, 5, HUGE]:
            self.fails(NoPin, [value], album.without_pin, value)
        self.fails(Misfit, ["pins"], Album(THREE).without_pin, 3)
        self.fails(NoPin, [4], Album(THREE).without_pin, 4)

    def test_with_pin(self):
        album = Album(THREE)
        told = album.with_pin([(2, 3), [LIMIT, -LIMIT], (0, 0)])
        self.assertEqual([one.places[4] for one in told.pictures], [(2, 3), (LIMIT, -LIMIT), (0, 0)])
        self.assertEqual([one.places[:4] for one in told.pictures], [one.places for one in THREE])
        self.assertEqual(Album([SEVEN.without(6)]).with_pin(places=((2, 2),)), Album([SEVEN]))

    def test_with_wrong_places(self):
        album = Album(THREE)
        good = [(2, 3), (4, 5), (0, 0)]
        wrong = no_lists() + [[None], [True], ["0"], [1.0], [[]], ((),), [[1], [2]], [0, 0], [(1, 2, 3)] * 3, ["12"] * 3]
        for one in (album, Album([SEVEN] * 3)):
            self.fails_for(wrong, BadPicture, ["places"], one.with_pin)
        self.is_no_list_of(good, [value for value in odd_values() if value not in ([0, 0],)], BadPicture, ["places"],
                           album.with_pin)
        for at in range(3):
            for k in range(2):
                for value in no_integers() + [LIMIT + 1, -LIMIT - 1]:
                    places = [list(place) for place in good]
                    places[at][k] = value
                    self.fails(BadPicture, ["places"], album.with_pin, places)
        for places in ([], good[:2], good + [(1, 1)]):
            self.fails(Misfit, ["pictures"], album.with_pin, places)
            self.fails(Misfit, ["pictures"], Album([SEVEN] * 3).with_pin, places)
        self.fails(BadPicture, ["places"], album.with_pin, good + [(1, LIMIT + 1)])
        self.fails(TooMany, ["pins", 7], Album([SEVEN] * 3).with_pin, good)
        self.assertEqual((good, album), ([(2, 3), (4, 5), (0, 0)], Album(THREE)))


class TextTest(Case):

    def test_texts(self):
        self.assertEqual(str(Album([FRONT, FRONT])), "1 1 / 3 1 / 1 4 / 0 0 ; 1 1 / 3 1 / 1 4 / 0 0")
        for album in (Album(THREE), Album([SEVEN] * 8), Album([FIVE])):
            self.assertEqual(Album.read(str(album)), album)
        self.assertEqual(Album.read(text=str(FRONT)), Album([FRONT]))

    def test_bent_texts(self):
        for album in (Album([FRONT]), Album([FRONT, FRONT.mirrored()]), Album([FIVE, FIVE.times(2), FIVE])):
            self.reads_bent(Album.read, str(album), album_patterns())

    def test_longest_text(self):
        text = str(Album([SEVEN] * 8))
        for more, item in ((" ;", 167), (" /", 167), (" 0", 167), (" ", 167)):
            self.fails(BadText, [0, item], Album.read, text + more)
            self.reads(Album.read, text + more, album_patterns())
        self.fails(BadText, [0, 95], Album.read, str(Album([FRONT] * 8)) + " ; " + str(FRONT))

    def test_wrong_texts(self):
        four = "0 0 / 1 0 / 0 1 / 1 1"
        for text, item in (("", 0), (four + " ;", 12), (four + " ; 0 0 / 1 0 / 0 1 ;", 20), (four + " ; 0 0 / 1 0 / 0 1", 20),
                           (four + " ; " + four + " / 2 2", 23), (four + " / 2 2 ; " + four, 26), (four + " / 2 2 ; " + four + " ;", 26),
                           ("0 0 / 1 0 / 0 1 ; 1 1", 8), (four + " ; " + four + " ;", 24), (four + " ;; " + four, 11)):
            self.fails(BadText, [0, item], Album.read, text)
        for value in odd_values():
            if not isinstance(value, str):
                self.fails(BadText, [0, 0], Album.read, value)


if __name__ == "__main__":
    unittest.main()
