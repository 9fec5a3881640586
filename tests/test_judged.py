"""What of an album is sure, never, or open; steps that are equal or at right angles; which pictures are enough."""

import itertools
import unittest
from collections import Counter

from farseen.albums import Album
from farseen.charts import Chart
from farseen.check_sayings import shows_judged
from farseen.errors import BadAlbum, BadSaying, Impossible, Misfit, TooMany
from farseen.judged import Never, Open, Sure, enough, equal_steps, judged, right_steps, stretch_row
from farseen.pictures import Picture
from farseen.sayings import Saying
from farseen.settled import settle
from tests.helpers import LIMIT, Case, chance, no_lists, odd_values
from tests.plain_albums import body_albums, kin_of, plain_kind, plain_planes, whole
from tests.plain_sayings import (are_squares_of, body_sayings, edge_sayings, inertia, form_of, is_open, plain_can_be, plain_enough,
                                 plain_word, row_along, sayings_on)
from tests.test_albums import no_albums
from tests.test_axes import ONE, OTHER
from tests.test_sayings import no_sayings, plain_product, some_sayings
from tests.test_settled import BAD, CUBE, SIDES, TORN, all_albums

SQUARE = Saying([(1, (0, 1), (0, 1))], "above", 9)
LOOSE, BENT = CUBE.picked([0]), CUBE.picked([0, 1])
FAR_SAYING = Saying([(0, (0, 0), (4, 0))], "just", 0)


def whole_albums(seed, many):
    """Albums of all kinds that are not none's."""
    for album in itertools.chain(all_albums(seed, many), [LOOSE, BENT, CUBE, Album(SIDES[:3])]):
        if plain_kind(album) != "none":
            yield album


def square_albums(seed, many):
    """Free albums: pictures with kin ones."""
    dice = chance(seed)
    for _, _, album in body_albums(seed + 1, many, 1):
        if plain_kind(album) == "free":
            yield Album([album.pictures[0]] + [kin_of(dice, album.pictures[0]) for _ in range(dice.randrange(3))])


class JudgedCase(Case):

    def check(self, album, saying):
        """The paper has the right word, and shows it; what it tells."""
        told, word = judged(album, saying), plain_word(album, saying)
        self.assertEqual((told.word, type(told), bool(told)), (word, {"sure": Sure, "never": Never, "open": Open}[word], word != "never"),
                         (str(album), str(saying)))
        if word == "open":
            self.assertTrue(isinstance(told.one, tuple) and all(isinstance(chart, Chart) for chart in told.one + (told.other,)))
            self.assertTrue(is_open(album, saying, told.one, told.other), (str(album), str(saying)))
        elif plain_kind(album) == "free":
            self.assertTrue(are_squares_of(saying, album.pins, told.squares))
        else:
            self.assertEqual(told.squares, ())
        self.assertEqual(judged(album, Saying(saying.terms, saying.word, saying.number)), told)
        self.assertIs(shows_judged(album, saying, told), True)
        return word


class JudgedTest(JudgedCase):

    def test_all_kinds(self):
        dice, found = chance(441), Counter()
        for album in whole_albums(442, 20):
            kind = plain_kind(album)
            for saying in sayings_on(dice, album, 12):
                found[(kind, saying.word, self.check(album, saying))] += 1
        for kind, word, told in itertools.product(("free", "stretch", "one"), ("above", "below", "just"), ("sure", "never", "open")):
            if (kind, told) != ("one", "open") and (kind, word, told) != ("free", "just", "sure"):
                self.assertGreater(found[(kind, word, told)], 0, (kind, word, told))
        self.assertFalse(any(told == "open" for kind, _, told in found if kind == "one"))

    def test_edges(self):
        found = Counter()
        for album in (LOOSE, BENT, CUBE, Album([ONE, ONE.mirrored()]), Album([OTHER]), Album(SIDES[:2]), Album([SIDES[2]])):
            for saying in edge_sayings(album):
                found[(plain_kind(album), saying.word, self.check(album, saying))] += 1
        self.assertGreater(found[("free", "just", "sure")], 0)
        self.assertGreater(found[("stretch", "just", "sure")], 0)

    def test_free(self):
        # Forms of all kinds: below and above 0, never below, never above, all 0; reaching 0 out of the plane, or not.
        dice, found = chance(443), Counter()
        for album in square_albums(444, 50):
            for saying in sayings_on(dice, album, 6):
                above, below = inertia(form_of(saying.terms, album.pins))
                can_be = plain_can_be(album, saying)
                self.check(album, saying)
                found[(above > 0, below > 0, can_be)] += 1
        self.assertEqual(len(found), 10, found)

    def test_word_just_and_the_others(self):
        dice = chance(445)
        for album in whole_albums(446, 5):
            for saying in sayings_on(dice, album, 4):
                words = [judged(album, one).word for one in (saying,) + saying.others()]
                self.assertIn(sorted(words), (["never", "never", "sure"], ["never", "open", "open"], ["open"] * 3))
                for number in (3, -2):
                    self.assertEqual(judged(album, saying.times(number)).word, words[0])

    def test_bodies(self):
        found = Counter()
        for body, scale, album, saying in body_sayings(447, body_albums(448, 30, 5)):
            if plain_kind(album) == "none":
                continue
            own = Chart([[scale * scale * number for number in row] for row in body.chart().rows])
            told = judged(album, saying).word
            self.assertNotEqual(told, "never" if saying.holds(own) else "sure")
            self.check(album, saying)
            found[(told, saying.holds(own))] += 1
        self.assertEqual(len(found), 4, found)

    def test_with_a_picture_more(self):
        dice = chance(449)
        for album in whole_albums(450, 6):
            for saying in sayings_on(dice, album, 3):
                words = [judged(album.picked(list(range(many))), saying).word for many in range(1, len(album) + 1)]
                for early, late in itertools.pairwise(words):
                    self.assertTrue(early == "open" or late == early)

    def test_numbers_that_are_no_ratios(self):
        # In BENT the product of (0, 1) and (0, 3) is just 1 at c for which c c less 3 c and 1 is 0.
        saying = Saying([(1, (0, 1), (0, 3))], "just", 1)
        told = judged(BENT, saying)
        self.assertEqual((told.word, len(told.one)), ("open", 2))
        self.check(BENT, saying)
        self.check(LOOSE, Saying([(1, (0, 3), (0, 3))], "just", 2))

    def test_depths_of_nothing(self):
        # In LOOSE all pins but pin 3 stand apart: its square is that of its depth, which is not 0.
        for number, told in ((-1, "sure never never"), (0, "sure never never"), (1, "open open open")):
            for word, its in zip(("above", "below", "just"), told.split()):
                self.assertEqual(judged(LOOSE, Saying([(1, (0, 3), (0, 3))], word, number)).word, its)
        self.assertEqual([judged(LOOSE, Saying([(1, (0, 1), (0, 1))], word, 9)).word for word in ("above", "below", "just")],
                         ["open", "never", "open"])
        self.assertEqual([judged(LOOSE, Saying([(2, (0, 0), (0, 1))], word, 0)).word for word in ("above", "below", "just")],
                         ["never", "never", "sure"])

    def check_errors(self, call):
        """The errors that judged, and shows_judged, raise for an album and a saying."""
        self.fails_for(no_albums(), BadAlbum, ["album"], lambda value: call(value, None))
        for album in (CUBE, BAD):
            self.fails_for(no_sayings(), BadSaying, ["saying"], lambda value: call(album, value))
            self.fails(Misfit, ["pins"], call, album, FAR_SAYING)

    def test_errors(self):
        self.check_errors(judged)
        self.check_errors(stretch_row)
        for album in (BAD, TORN, Album(SIDES)):
            with self.assertRaises(Impossible) as caught:
                judged(album, SQUARE)
            self.assertEqual(caught.exception.paper, settle(album))
        five = Album([Picture(ONE.places + ((1, 1),))])
        self.assertEqual(judged(five, FAR_SAYING).word, "sure")


class StretchRowTest(Case):

    def test_rows(self):
        dice, found = chance(451), 0
        for album in whole_albums(452, 14):
            planes = plain_planes(album)
            for saying in sayings_on(dice, album, 4):
                if len(planes) != 2:
                    self.fails(Misfit, ["kind"], stretch_row, album, saying)
                    continue
                told, right = stretch_row(album, saying), row_along(album, saying, planes)
                self.assertIs(type(told), tuple)
                if any(right):
                    made = whole(right)
                    at = next(k for k in range(3) if right[k])
                    self.assertEqual(told, made if right[at] > 0 else tuple(-number for number in made))
                else:
                    self.assertEqual(told, (0, 0, 0))
                found += 1
        self.assertGreater(found, 20)

    def test_kinds(self):
        for album in (LOOSE, CUBE, BAD, TORN):
            self.fails(Misfit, ["kind"], stretch_row, album, SQUARE)
            self.fails(Misfit, ["pins"], stretch_row, album, FAR_SAYING)
        self.assertEqual(stretch_row(BENT, SQUARE), (4, -12, 9))
        self.assertEqual(stretch_row(BENT, Saying([(0, (0, 1), (0, 1))], "above", 0)), (0, 0, 0))
        self.assertEqual(stretch_row(album=BENT, saying=Saying([(0, (0, 1), (0, 1))], "above", 7)), (-1, 0, 1))


class StepsTest(Case):

    def upright_pairs(self, seed, many):
        """Stretches of small numbers: what steps go along, and across in both pictures, is often alike."""
        dice = chance(seed)
        while many:
            rows = [[0] + [dice.choice(numbers) for _ in range(4)] for numbers in ((0, 1), (-2, -1, 1, 2), (-2, -1, 1, 2))]
            album = Album([Picture(list(zip(rows[0], row))) for row in rows[1:]])
            if plain_kind(album) == "stretch":
                many -= 1
                yield album

    def test_steps(self):
        for album in itertools.chain(whole_albums(453, 4), self.upright_pairs(459, 12)):
            if album.pins > 5:
                continue
            steps = list(itertools.combinations(range(album.pins), 2))
            lots = []
            for step in steps:
                for lot in lots:
                    longer = Saying([(1, step, step), (-1, lot[0], lot[0])], "just", 0)
                    if plain_word(album, longer) == "sure":
                        lot.append(step)
                        break
                else:
                    lots.append([step])
            self.assertEqual(equal_steps(album), tuple(map(tuple, lots)))
            right = [pair for pair in itertools.combinations(steps, 2) if plain_word(album, Saying.right(*pair)) == "sure"]
            self.assertEqual(right_steps(album), tuple(right))

    def test_seven_pins(self):
        body, scale, album = next(told for told in body_albums(454, 60) if told[2].pins == 7 and plain_kind(told[2]) == "one")
        steps = list(itertools.combinations(range(7), 2))
        rows = list(zip(*body.places))
        lots = {}
        for step in steps:
            lots.setdefault(plain_product(rows, step, step), []).append(step)
        self.assertEqual(equal_steps(album), tuple(map(tuple, lots.values())))
        self.assertEqual(right_steps(album=album), tuple(pair for pair in itertools.combinations(steps, 2) if plain_product(rows, *pair) == 0))

    def test_same_place(self):
        # Pins 0 and 4 are in one place in all pictures: whatever goes between has no length.
        cube = Album([Picture(picture.places + (picture.places[0],)) for picture in CUBE.pictures])
        self.assertIn(((0, 4),), equal_steps(cube))
        self.assertEqual(sum((0, 4) in pair for pair in right_steps(cube)), 9)
        # Of two pictures their charts have it so, too; of one, its depth is open.
        self.assertEqual(sum((0, 4) in pair for pair in right_steps(cube.picked([0, 1]))), 9)
        self.assertEqual(right_steps(cube.picked([0])), ())
        self.assertEqual(equal_steps(cube.picked([2])), tuple((step,) for step in itertools.combinations(range(5), 2)))

    def test_errors(self):
        for call in (equal_steps, right_steps):
            self.fails_for(no_albums(), BadAlbum, ["album"], call)
            for album in (BAD, TORN, Album(SIDES)):
                with self.assertRaises(Impossible) as caught:
                    call(album)
                self.assertEqual(caught.exception.paper, settle(album))


class EnoughTest(Case):

    def test_enough(self):
        dice, found = chance(455), Counter()
        for album in whole_albums(456, 8):
            if len(album) > 5:
                album = album.picked(list(range(5)))
            sayings = list(sayings_on(dice, album, 4))
            for some in (sayings, sayings[:2], sayings[3:], []):
                told = enough(album, some)
                self.assertEqual(told, plain_enough(album, some))
                found[len(told)] += 1
            self.assertEqual(enough(album, tuple(sayings)), enough(album=album, sayings=sayings))
        self.assertTrue(all(found[many] > 2 for many in (1, 2, 3)), found)

    def test_kin_pictures_do_not_help(self):
        album = Album([ONE, ONE.mirrored(), OTHER, OTHER.turned(), CUBE.pictures[2]])
        self.assertEqual(enough(album, [SQUARE]), (0, 2, 4))
        self.assertEqual(enough(album, [Saying([(1, (0, 1), (0, 1))], "above", 8)]), (0,))
        self.assertEqual(enough(album.picked([1, 0, 3, 2]), [SQUARE]), (0,))
        self.assertEqual(enough(album, []), (0,))

    def test_errors(self):
        self.fails_for(no_albums(), BadAlbum, ["album"], lambda value: enough(value, None))
        wrong = no_lists() + [[None], [SQUARE, None], [[SQUARE]], SQUARE, {SQUARE.number: SQUARE}, "1 0 1 0 1 above 8"]
        for album in (CUBE, BAD):
            self.fails_for(wrong, BadSaying, ["sayings"], lambda value: enough(album, value))
            self.is_no_list_of([SQUARE] * 3, odd_values(), BadSaying, ["sayings"], lambda value: enough(CUBE, value))
            self.fails(BadSaying, ["sayings"], enough, album, [FAR_SAYING] * 9 + [None])
            self.fails(Misfit, ["pins"], enough, album, [SQUARE] * 9 + [FAR_SAYING])
            self.fails(Misfit, ["pins"], enough, album, [FAR_SAYING])
            self.fails(TooMany, ["sayings", 8], enough, album, [SQUARE] * 9)
        self.assertEqual(enough(CUBE, [SQUARE] * 8), (0, 1, 2))
        for album in (BAD, TORN, Album(SIDES)):
            with self.assertRaises(Impossible) as caught:
                enough(album, [])
            self.assertEqual(caught.exception.paper, settle(album))


class GreatTest(Case):

    def test_nine_digits(self):
        dice = chance(457)
        for body, _, album in body_albums(458, 40):
            if album.pins < 7 or plain_kind(album) == "none":
                continue
            most = max(abs(number) for picture in album.pictures for place in picture.places for number in place)
            far = Album([picture.times(LIMIT // most) for picture in album.pictures])
            sayings = [Saying(saying.terms, saying.word, saying.number + dice.randrange(10 ** 8))
                       for saying in some_sayings(dice.randrange(999), 8, 7, 12)]
            for saying in sayings:
                told = self.takes_short(judged, far, saying)
                self.assertIs(self.takes_short(shows_judged, far, saying, told), True)
            self.takes_short(enough, far, sayings)
            self.takes_short(right_steps, far)
            self.takes_short(equal_steps, far)


if __name__ == "__main__":
    unittest.main()
