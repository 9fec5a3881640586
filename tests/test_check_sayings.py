"""Whether papers on sayings are right."""

import itertools
import unittest
from collections import Counter
from fractions import Fraction
from unittest import mock

from farseen.albums import Album
from farseen.bodies import Body
from farseen.charts import Chart, Squares
from farseen.check_sayings import shows_judged, shows_signs
from farseen.errors import BadAlbum, BadNumber, BadSaying, Misfit
from farseen.judged import Never, Open, Sure, judged
from farseen.sayings import Saying
from farseen.signs import Signs
from farseen.stretches import chart_at
from tests.helpers import HUGE, ShowsCase, chance, fakes, is_plain_ratio, is_plain_row, odd_values
from tests.plain_albums import plain_kind
from tests.plain_sayings import are_squares_of, edge_sayings, is_chart_of, is_open, plain_word, sayings_on, told_by
from tests.test_albums import no_albums
from tests.test_axes import ONE
from tests.test_judged import BENT, FAR_SAYING, LOOSE, SQUARE, whole_albums
from tests.test_sayings import no_sayings, sum_in_chart
from tests.test_settled import BAD, CUBE, SIDES, TORN
from tests.test_signs import NO_ROWS
from tests.test_stretches import LINE

CLASSES = [(Sure, 1), (Never, 1), (Open, 2), (Squares, 1), (Signs, 3)]
DEPTHS = [(0, 0, 1), (1, 0, 1), (-2, 1, 3), (2, 1, 1)]
# The square of a step alone, a form of all 0, a form below 0 and above it, at numbers at which they are sure, never, open.
TAKEN = [Saying([(1, (0, 3), (0, 3))], "above", 0), Saying([(1, (0, 3), (0, 3))], "just", 0), Saying([(-2, (0, 3), (1, 3))], "below", 4),
         Saying([(1, (0, 1), (0, 1))], "above", 8), Saying([(1, (0, 1), (0, 1))], "just", 9), Saying([(1, (0, 1), (0, 2))], "just", 0),
         Saying([(1, (0, 1), (0, 1))], "just", 12),
         Saying([(1, (0, 1), (0, 1)), (1, (0, 2), (0, 2))], "below", 18), Saying([(0, (0, 1), (0, 1))], "just", 0),
         Saying([(1, (0, 1), (0, 1)), (2, (0, 3), (2, 3))], "above", -30)]


def free_chart(depths, by=1):
    """The chart of LOOSE with these depths over the number."""
    rows = [[number * by for number in row] for row in ONE.rows] + [list(depths)]
    return Chart([[sum(row[a] * row[b] for row in rows) for b in range(3)] for a in range(3)], by * by)


def some_charts():
    """Charts, many of them of LOOSE, some of BENT, one of CUBE, some of none."""
    charts = [free_chart(depths, by) for depths in DEPTHS for by in (1, 3)]
    charts += [chart_at(*BENT.pictures, c) for c in ((-12, 13), (0, 1), (5, 13), (12, 13))]
    # Not solid, below 0, of another body, of more pins.
    wrong = [Chart([[9, 0, 0], [0, 9, 0], [0, 0, 0]]), Chart([[9, 0, 0], [0, 9, 0], [0, 0, -1]]), Chart([[8, 0, 0], [0, 9, 0], [0, 0, 9]]),
             Chart([[10, 0, 0], [0, 9, 0], [0, 0, 1]]), Chart([[10, 0, 0], [0, 10, 0], [0, 0, 1]]), Chart([[10, 0, 0], [0, 9, 0], [0, 0, 0]]), Chart([[9, 0], [0, 9]]),
             Chart([[9, 0, 0, 0], [0, 9, 0, 0], [0, 0, 9, 9], [0, 0, 9, 9]]),
             Chart([[9, 0, 0, 0], [0, 9, 0, 0], [0, 0, 9, 0], [0, 0, 0, 9]]), Chart([[0] * 3] * 3)]
    return charts + [Chart([[9, 0, 0], [0, 9, 0], [0, 0, 9]])] + wrong


class ShowsJudgedTest(ShowsCase):

    def test_what_judged_tells(self):
        dice, found = chance(461), Counter()
        for album in whole_albums(462, 6):
            for saying in itertools.chain(sayings_on(dice, album, 4), list(edge_sayings(album))[::17]):
                paper = judged(album, saying)
                self.shows(lambda value: shows_judged(album, saying, value), paper)
                for other in saying.others() + (saying.times(-1),):
                    word = plain_word(album, other)
                    its = judged(album, other)
                    told = shows_judged(album, saying, its)
                    right = word == paper.word and (word != "open" or is_open(album, saying, its.one, its.other))
                    self.assertIs(told, right)
                found[paper.word] += 1
        self.assertGreater(min(found.values()), 20)

    def test_words(self):
        # Sure and Never with what would show them, of all words at all numbers next to where the sum is.
        found = Counter()
        for album in (LOOSE, BENT, CUBE):
            for saying in list(edge_sayings(album)) + TAKEN:
                word = plain_word(album, saying)
                its = judged(album, saying)
                for paper in (Sure, Never):
                    squares = its.parts[0] if word != "open" and plain_kind(album) == "free" else ()
                    shown = shows_judged(album, saying, paper(squares))
                    empty = plain_kind(album) != "free" or are_squares_of(saying, album.pins, squares)
                    self.assertIs(shown, paper.__name__.lower() == word and empty)
                    found[(paper.__name__, shown)] += 1
        self.assertGreater(min(found.values()), 20)

    def test_any_charts(self):
        found = Counter()
        charts = some_charts()
        for album in (LOOSE, BENT, CUBE):
            of = [is_chart_of(album, chart) for chart in charts]
            for saying in TAKEN:
                sums = [told_by(sum_in_chart(chart.rows, saying.terms) - saying.number * chart.by) if chart.pins == 4 else None
                        for chart in charts]
                own = told_by(0 if saying.word == "just" else 1 if saying.word == "above" else -1)
                for one, other in itertools.product(range(len(charts)), repeat=2):
                    shown = shows_judged(album, saying, Open([charts[one]], charts[other]))
                    self.assertIs(shown, of[one] and of[other] and sums[one] == own and sums[other] != own)
                    found[(plain_kind(album), shown)] += 1
                    third = (2 * one + other) % len(charts)
                    shown = shows_judged(album, saying, Open([charts[one], charts[third]], charts[other]))
                    right = saying.word == "just" and of[one] and of[other] and of[third] and sums[other] != own
                    right = right and sums[one] == told_by(-1) and sums[third] == told_by(1)
                    self.assertIs(shown, right)
                    found[("two", shown)] += 1
                self.assertIs(shows_judged(album, saying, Open(charts[:1] * 3, charts[1])), False)
                self.assertIs(shows_judged(album, saying, Open([], charts[1])), False)
        self.assertTrue(all(found[(kind, True)] > 3 for kind in ("free", "stretch", "two")), found)
        self.assertEqual(found[("one", True)], 0)
        # Of a thin picture no chart is right.
        for one, other in itertools.product(charts, repeat=2):
            self.assertIs(shows_judged(Album([LINE]), SQUARE, Open([one], other)), False)

    def test_any_squares(self):
        saying = Saying([(1, (0, 3), (0, 3)), (4, (0, 1), (0, 1))], "above", 0)
        told = judged(LOOSE, saying)
        self.assertEqual(told.word, "sure")
        for terms, right in ((told.squares, True), (told.squares[::-1], True), ([((1, 1), (0, 0, 1)), ((4, 1), (1, 0, 0))], True),
                             ([((1, 2), (0, 0, 1)), ((1, 2), (0, 0, 1)), ((1, 1), (2, 0, 0))], True), ((), False),
                             ([((1, 2), (2, 0, 1)), ((1, 2), (-2, 0, 1))], True), ([((1, 1), (0, 0, 1))], False),
                             ([((1, 1), (0, 0, 1)), ((4, 1), (1, 0, 0)), ((1, 1), (0, 0, 0))], False),
                             ([((1, 1), (0, 0, 1)), ((8, 2), (1, 0, 0))], False), ([((1, 1), (0, 0, 1, 0)), ((4, 1), (1, 0, 0))], False),
                             ([((-1, 1), (0, 0, 1)), ((-4, 1), (1, 0, 0))], False)):
            self.assertIs(shows_judged(LOOSE, saying, Sure(terms)), right, terms)
            self.assertIs(shows_judged(LOOSE, saying.times(-3), Sure([((3 * ratio[0], ratio[1]), row) for ratio, row in terms])), right)
            self.assertIs(shows_judged(LOOSE, saying.others()[1], Never(terms)), right)
            self.assertIs(shows_judged(LOOSE, saying, Never(terms)), False)
            self.assertIs(shows_judged(BENT, saying, Sure(terms)), terms == ())
        nothing = Saying([(0, (0, 1), (0, 2))], "just", 0)
        self.assertIs(shows_judged(LOOSE, nothing, Sure(())), True)
        self.assertIs(shows_judged(LOOSE, nothing, Sure([((1, 1), (0, 0, 0))])), False)
        self.assertIs(shows_judged(LOOSE, nothing, Sure([((0, 1), (0, 0, 1))])), False)

    def test_bent(self):
        for album in (LOOSE, BENT, CUBE):
            for saying in TAKEN:
                paper = judged(album, saying)

                def is_right(parts):
                    if paper.word == "open":
                        one, other = parts
                        charts = isinstance(one, tuple) and all(isinstance(chart, Chart) for chart in one + (other,))
                        return charts and is_open(album, saying, one, other)
                    squares = parts[0]
                    return are_plain_squares(squares, album.pins) and plain_kind(album) == "free" and are_squares_of(saying, album.pins, squares)
                self.shows_no_bent(lambda value: shows_judged(album, saying, value), paper, is_right)
                right = [] if paper.word == "open" else [paper]
                self.shows_nothing_else(lambda value: shows_judged(album, saying, value), CLASSES, right)

    def test_fakes_within(self):
        one, other = free_chart(DEPTHS[0]), free_chart(DEPTHS[2])
        saying = Saying([(1, (0, 1), (0, 1))], "above", 9)
        self.assertIs(shows_judged(LOOSE, saying, Open([other], one)), True)
        for value in odd_values() + [mock.ANY]:
            empty = isinstance(value, (list, tuple)) and len(value) == 0
            self.assertIs(shows_judged(BENT, Saying([(1, (0, 1), (0, 1))], "above", 8), Sure(value)), empty)
        for value in odd_values() + [mock.ANY, one.rows, str(one), Body([(0, 0, 0), (3, 0, 0), (0, 3, 0), (0, 0, 1)]), [one], (one,)]:
            self.assertIs(shows_judged(LOOSE, saying, Open([other], value)), False)
            self.assertIs(shows_judged(LOOSE, saying, Open([value], one)), False)
            self.assertIs(shows_judged(LOOSE, saying, Open(value, one)), False)

    def test_none(self):
        # Of an album that is none's nothing is right.
        for album in (BAD, TORN, Album(SIDES), Album([ONE, ONE.times(2)])):
            for saying in TAKEN:
                for paper in [Sure(()), Never(()), Sure([((1, 1), (0, 0, 1))]), Never([((1, 1), (0, 0, 1))])]:
                    self.assertIs(shows_judged(album, saying, paper), False)
            charts = some_charts()
            for one, other in itertools.product(charts, repeat=2):
                self.assertIs(shows_judged(album, SQUARE, Open([one], other)), False)

    def test_errors(self):
        for paper in (Sure(()), judged(LOOSE, SQUARE), None, Open([], None)):
            self.fails_for(no_albums(), BadAlbum, ["album"], lambda value: shows_judged(value, None, paper))
            for album in (CUBE, BAD):
                self.fails_for(no_sayings(), BadSaying, ["saying"], lambda value: shows_judged(album, value, paper))
                self.fails(Misfit, ["pins"], shows_judged, album, FAR_SAYING, paper)
            self.fails_for(NO_ROWS, BadNumber, ["row"], lambda value: shows_signs(value, paper))
        for fake in fakes(Signs(None, None, (0, 1))):
            self.assertIs(shows_signs([1, 0, 0], fake), False)

    def test_great(self):
        saying = Saying([(HUGE, (0, 1), (0, 1))], "above", HUGE)
        paper = judged(LOOSE, saying)
        self.assertIs(shows_judged(LOOSE, saying, paper), True)
        self.assertEqual(Fraction(*paper.squares[0][0]) * paper.squares[0][1][0] ** 2, HUGE)


def are_plain_squares(terms, pins):
    """Whether they are pairs of a ratio and of a row with one integer for each pin but pin 0."""
    if not isinstance(terms, tuple):
        return False
    return all(isinstance(term, tuple) and len(term) == 2 and is_plain_ratio(term[0]) and is_plain_row(term[1], pins - 1) for term in terms)


if __name__ == "__main__":
    unittest.main()
