"""A call that raises changes nothing; no answer comes late."""

import copy
import unittest

from farseen.albums import Album
from farseen.bodies import Body
from farseen.charts import Chart, never_below, rest
from farseen.check_axes import shows_axis, shows_turn
from farseen.check_charts import shows_rank, shows_rest
from farseen.check_fits import shows_fits, shows_foretold, shows_mix, shows_new_pin
from farseen.check_fronts import shows_depths, shows_fronts
from farseen.check_kin import shows_kin
from farseen.check_sayings import shows_judged, shows_signs
from farseen.check_settled import shows_corner, shows_settle
from farseen.check_sizes import shows_evened, shows_judged_sized, shows_scale, shows_sizes
from farseen.check_together import shows_faced, shows_standing, shows_together
from farseen.check_trays import shows_steady, shows_tray
from farseen.corners import corner
from farseen.desk import Desk
from farseen.desk_asks import answer_of
from farseen.desk_deeds import changed
from farseen.desk_lines import ASKS, DEEDS
from farseen.errors import SeenError
from farseen.evened import evened
from farseen.facings import faced, facings
from farseen.facts import Fact
from farseen.fits import fits
from farseen.forced import clashes, forced_facts, forcing
from farseen.fronts import depths, fronts
from farseen.judged import enough, judged, stretch_row
from farseen.kin import Kin, groups, kin
from farseen.leasts import least_square, least_volume
from farseen.newpins import chart_with, new_pin
from farseen.pictures import Picture
from farseen.points import foretold, mix
from farseen.sayings import Saying
from farseen.scales import scale
from farseen.shelves import Shelf
from farseen.signs import sign_at, signs
from farseen.sizes import judged_sized, sized_chart_at, sizes
from farseen.steady import steady, steady_row
from farseen.stories import parting, replay
from farseen.stretches import chart_at, turn
from farseen.tables import rank
from farseen.together import together
from farseen.trays import Tray
from farseen.traysettled import c_of, settle_tray, tray_chart_at, tray_quarrels
from farseen.uprights import standing, upright
from tests.helpers import HUGE, LIMIT, Case, chance, odd_values
from tests.test_check_trays import CLASSES
from tests.test_desk import state
from tests.test_points import WIDE
from tests.test_settled import CUBE

WRONG = odd_values() + [[0, 1, 2, 9], [0, 1, 1, 2], [0, 1, 2], [3, 3], (0, 0, 0), [[0, 1], [1, True]], [[5] * 7] * 20]


def all_methods(value):
    return [getattr(value, name) for name, method in vars(type(value)).items()
            if not name.startswith("_") and callable(getattr(value, name))]


class UnchangedTest(Case):

    def check(self, value):
        """Neither the value nor what is passed changes, whatever is passed."""
        before = dict(vars(value))
        raised = 0
        for method in all_methods(value):
            many = method.__code__.co_argcount - (0 if isinstance(vars(type(value))[method.__name__], staticmethod) else 1)
            for wrong in WRONG:
                passed = [wrong] * many
                text = repr(passed)
                try:
                    method(*passed)
                except SeenError:
                    raised += 1
                self.assertEqual(repr(passed), text)
                self.assertEqual(dict(vars(value)), before)
        self.assertGreater(raised, 100)

    def test_values(self):
        picture = Picture([(LIMIT, 1), (3, 1), (1, 4), (0, -LIMIT), (2, 2)])
        self.check(picture)
        self.check(Album([picture, picture.mirrored()]))
        self.check(Body([[LIMIT, 0, 0], [1, 0, 0], [0, 1, 0], [0, 0, 1]]))
        self.check(Tray([[0, 2, 1, 4], [5, 6, 7, 0]]))
        self.check(Chart([[28, 26], [26, 28]], 3))
        self.check(Saying([(1, (0, 1), (0, 2)), (-3, (2, 0), (1, 1))], "just", 4))

    def test_facts(self):
        fact = Fact(1, 2, 3)
        for value in WRONG:
            text = repr(value)
            for call in (Fact.read, lambda one: Fact(one, one, one), lambda one: Fact(0, 1, one), fact.__eq__):
                try:
                    call(value)
                except SeenError:
                    pass
            self.assertEqual((vars(fact), repr(value)), ({"picture": 1, "near": 2, "far": 3}, text))

    def test_functions(self):
        tray, picture, chart = Tray([[0, 2, 1], [0, 1, 2]]), Picture([(1, 1), (3, 1), (1, 4), (0, 0)]), Chart([[1, 0], [0, 1]])
        album = Album([picture, picture.times(2), picture.mirrored()])
        saying = Saying([(1, (0, 1), (0, 2))], "just", 4)
        fact, stretch = Fact(0, 0, 3), CUBE.picked([0, 1])
        shelf = Shelf([("a", CUBE, [fact]), ("t", tray, [])])
        kept = [tray, picture, chart, album, saying, fact, stretch, shelf, CUBE, WIDE] + list(CUBE.pictures)
        before = copy.deepcopy([vars(value) for value in kept])
        for wrong in WRONG:
            for call, args in ((tray_chart_at, (tray, wrong)), (c_of, (tray, wrong, 0)), (steady_row, (tray, wrong)),
                               (kin, (picture, wrong)), (rest, (chart, wrong)), (shows_rest, (chart, wrong, wrong)),
                               (chart_at, (picture, picture, wrong)), (turn, (picture, picture, wrong)),
                               (least_square, (picture, picture, wrong)), (least_volume, (picture, picture, wrong)),
                               (shows_axis, (picture, picture, wrong)), (shows_turn, (picture, picture, wrong, wrong)),
                               (corner, (album, wrong)), (shows_corner, (album, [0, 1, 2], wrong)), (shows_settle, (album, wrong)),
                               (judged, (album, wrong)), (judged, (CUBE, wrong)), (stretch_row, (album, wrong)), (enough, (CUBE, wrong)),
                               (enough, (CUBE, [saying, wrong])), (shows_judged, (CUBE, saying, wrong)), (signs, (wrong,)),
                               (sign_at, (wrong, wrong)), (shows_signs, ([1, 2, 3], wrong)), (fits, (album, wrong)), (fits, (CUBE, wrong)),
                               (shows_fits, (CUBE, picture, wrong)), (mix, (WIDE, wrong, wrong)), (mix, (WIDE, [3, 2, 1, 0], wrong)),
                               (shows_mix, (WIDE, [3, 2, 1, 0], 0, wrong)), (foretold, (WIDE, wrong)), (new_pin, (WIDE, wrong)),
                               (chart_with, (CUBE, wrong)), (shows_foretold, (WIDE, [None] * 5, wrong)),
                               (shows_new_pin, (WIDE, [None, (0, 0)], wrong)), (Saying, (wrong, "just", 0)), (Saying.longer, (wrong, wrong)),
                               (shows_kin, (picture, picture, wrong)), (shows_tray, (tray, wrong)), (shows_steady, (tray, wrong)),
                               (depths, (CUBE, wrong)), (fronts, (CUBE, wrong)), (fronts, (stretch, [fact, wrong])), (forced_facts, (stretch, wrong)),
                               (forcing, (stretch, [fact], wrong)), (clashes, (stretch, wrong)), (shows_depths, (CUBE, 0, wrong)),
                               (shows_fronts, (stretch, [fact], wrong)), (scale, (picture, wrong)), (shows_scale, (picture, picture, wrong)),
                               (sizes, (wrong,)), (sized_chart_at, (stretch, wrong)), (judged_sized, (stretch, wrong)), (evened, (wrong,)),
                               (shows_sizes, (stretch, wrong)), (shows_judged_sized, (stretch, saying.right((0, 1), (0, 2)), wrong)),
                               (shows_evened, (stretch, wrong)), (together, (CUBE, wrong)), (together, (wrong, CUBE)),
                               (facings, (CUBE, CUBE, wrong)), (faced, (CUBE, wrong)), (upright, (tray, wrong)), (standing, (wrong,)),
                               (shows_together, (CUBE, CUBE, wrong)), (shows_faced, (CUBE, CUBE, [(0, 0)], wrong)), (shows_standing, (CUBE, wrong)),
                               (Shelf, (wrong,)), (Shelf, ([("a", CUBE, wrong)],)), (changed, (shelf, wrong)), (answer_of, (shelf, wrong)),
                               (replay, (wrong,)), (parting, (Desk(), wrong)), (shelf.thing, (wrong,)), (shelf.facts, (wrong,))):
                text = repr(wrong)
                try:
                    call(*args)
                except SeenError:
                    pass
                self.assertEqual(repr(wrong), text)
        self.assertEqual([vars(value) for value in kept], before)

    def test_desk(self):
        # A line that is refused, whatever it is, leaves the desk as it was, also what can be done again.
        desk = Desk()
        desk.told("tray t 0 2 1 5", "row t 0 1 2 3", "upright a t 1 0 0 2", "front a 0 0 1", "drop t")
        desk.undo()
        before = state(desk)
        lines = [word + rest for word in DEEDS + ASKS for rest in ("", " ", " x", " t x", " a 9 9 9", " a a a", " t 0 0", " a 0 0 0 7", " x y z")]
        refused = 0
        for line in WRONG + lines:
            for told in ((line,), ("drop a", line), (line, "what"), ("drop a", "kind t", line)):
                twin = desk.twin()
                for call, args in ((twin, told[-1:]), (twin.tried, told), (twin.told, told)):
                    try:
                        call(*args)
                    except SeenError:
                        refused += 1
                        self.assertEqual(state(twin), before)
                    else:
                        twin = desk.twin()
        self.assertGreater(refused, 500)
        self.assertEqual(state(desk), before)
        self.assertEqual(desk.redo(), "drop t")

    def test_changed_afterwards(self):
        # What was passed may be changed: neither values nor papers told of it change.
        terms, places, told = [[1, [0, 1], [0, 3]]], [[0, 0], [3, 0], [0, 5], [1, 1], None], [[2, 2], None]
        saying = Saying(terms, "just", 1)
        facts = [Fact(0, 0, 3), Fact(0, 0, 1)]
        papers = [judged(CUBE.picked([0, 1]), saying), foretold(WIDE, places), new_pin(WIDE, told), mix(WIDE, [0, 1, 2, 3], 4),
                  fronts(CUBE.picked([0, 1]), facts), sizes(CUBE), evened(CUBE), together(CUBE, CUBE)]
        before = copy.deepcopy(papers)
        for lists in (terms, terms[0], terms[0][1], places, places[0], told, told[0], facts):
            lists.reverse()
            lists.append(None)
        self.assertEqual(papers, before)
        self.assertEqual(judged(CUBE.picked([0, 1]), saying), papers[0])
        for paper in papers:
            parts = [list(part) if isinstance(part, tuple) else part for part in paper.parts]
            made = type(paper)(*parts)
            for part in parts:
                if isinstance(part, list):
                    part.clear()
            self.assertEqual(made, paper)


class ShortTimeTest(Case):

    def setUp(self):
        self.dice = chance(99)

    def numbers(self, many):
        return [self.dice.randrange(10 ** 8, 10 ** 9) for _ in range(many)]

    def test_tables_and_charts(self):
        table = [self.numbers(7) for _ in range(16)]
        self.takes_short(shows_rank, table, self.takes_short(rank, table))
        rows = [self.numbers(6) for _ in range(6)]
        chart = Chart([[rows[max(a, b)][min(a, b)] for b in range(6)] for a in range(6)], 999999937)
        table = [self.numbers(6) for _ in range(16)]
        self.assertTrue(self.takes_short(shows_rest, chart, table, self.takes_short(rest, chart, table)))
        self.takes_short(never_below, chart)
        self.takes_short(chart.volume, [6, 5, 4, 3])

    def test_pictures(self):
        places = [[self.dice.randrange(-LIMIT, LIMIT) for _ in range(2)] for _ in range(7)]
        pictures = [Picture(places), Picture(places).turned(), Picture(places).mirrored(), Picture(places).times(-1)]
        album = Album(pictures * 2)
        self.assertEqual(self.takes_short(groups, album), (tuple(range(8)),))
        self.assertTrue(self.takes_short(shows_kin, pictures[0], pictures[1], Kin(1, (1, 0, 1))))
        self.assertEqual(self.takes_short(Album.read, str(album)), album)
        body = Body([[self.dice.randrange(-1000, 1000) for _ in range(3)] for _ in range(7)])
        self.assertEqual(len(self.takes_short(body.album, [(1, 2, 3, 4), (9, -9, 9, -9), (5, 0, 0, 0)])), 3)

    def test_long_texts(self):
        for text in ("0 " * 9999, "1" * 20000, " " * 20000, "0 0 / " * 3333, "-" * 20000, "; " * 9999):
            for read in (Picture.read, Album.read, Tray.read, Saying.read):
                with self.assertRaises(SeenError):
                    self.takes_short(read, text)

    def test_trays(self):
        tray = Tray([self.numbers(7) for _ in range(8)])
        self.takes_short(tray_quarrels, tray)
        self.assertTrue(self.takes_short(shows_tray, tray, self.takes_short(settle_tray, tray)))
        self.assertTrue(self.takes_short(shows_steady, tray, self.takes_short(steady, tray)))
        for made, many in CLASSES:
            self.takes_short(shows_tray, tray, made(*[HUGE] * many))


if __name__ == "__main__":
    unittest.main()
