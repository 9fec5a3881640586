"""Trays: rows of places, and their texts."""

import itertools
import unittest

from farseen.errors import BadText, BadTray, Misfit, NoPicture, NoPin, TooMany, Twice
from farseen.trays import Tray
from tests.helpers import HUGE, LIMIT, Case, no_integers, no_lists, odd_values, tray_patterns
from tests.plain_trays import are_kin, some_trays

ROWS = [[0, 2, 1], [5, 6, 7], [0, 3, 3], [1, 0, -1]]


class TrayTest(Case):

    def test_attributes(self):
        tray = Tray(ROWS)
        self.assertEqual((tray.places, tray.pins, len(tray)), (tuple(tuple(row) for row in ROWS), 3, 4))
        self.assertEqual(tray.rows, ((2, 1), (1, 2), (3, 3), (-1, -2)))
        wide = Tray(rows=([LIMIT, -LIMIT, 0, 1, 2, 3, 4],) * 8)
        self.assertEqual((wide.pins, len(wide), wide.rows[7][0]), (7, 8, -2 * LIMIT))
        for value in (tray.places, tray.places[0], tray.rows, tray.rows[0]):
            self.assertIsInstance(value, tuple)

    def test_equal(self):
        self.assertTrue(Tray(ROWS) == Tray(tuple(tuple(row) for row in ROWS)))
        self.assertFalse(Tray(ROWS) != Tray(ROWS))
        for rows in (ROWS[::-1], ROWS[:3], ROWS + [[0, 0, 0]], [[number + 1 for number in row] for row in ROWS]):
            self.assertIs(Tray(ROWS) == Tray(rows), False)
        for value in odd_values() + [ROWS, Tray(ROWS).places]:
            self.assertIs(Tray(ROWS) == value, False)

    def test_wrong_rows(self):
        wrong = odd_values() + [[[1, 2]], [[1, 2, 3], [1, 2]], [[1] * 8], [[1] * 3] * 3 + [None], ["123"], [{1, 2, 3}], {(1, 2, 3)},
                                [range(3)], "1 2 3", [[1, 2, 3], 4], [[1] * 3] * 8 + [[1, 2]], [[1, 2, 3], [1] * 4, [1] * 8]]
        self.fails_for(wrong, BadTray, ["rows"], Tray)
        self.is_no_list_of([tuple(row) for row in ROWS], odd_values(), BadTray, ["rows"], Tray)
        for at, k in itertools.product(range(4), range(3)):
            for value in no_integers() + [LIMIT + 1, -LIMIT - 1, HUGE]:
                rows = [list(row) for row in ROWS]
                rows[at][k] = value
                self.fails(BadTray, ["rows"], Tray, rows)
            for value in (LIMIT, -LIMIT):
                rows = [list(row) for row in ROWS]
                rows[at][k] = value
                self.assertEqual(Tray(rows).places[at][k], value)

    def test_misfits(self):
        self.fails(Misfit, ["pins"], Tray, [[1, 2, 3], [1, 2, 3, 4]])
        self.fails(Misfit, ["pins"], Tray, [[1] * 7] * 3 + [[1] * 3])
        self.fails(Misfit, ["pins"], Tray, [[1, 2, 3]] * 8 + [[1] * 4])
        self.fails(TooMany, ["rows", 8], Tray, [[1, 2, 3]] * 9)
        self.assertEqual(len(Tray([[1, 2, 3]] * 8)), 8)

    def test_copied(self):
        rows = [list(row) for row in ROWS]
        tray = Tray(rows)
        rows[0][0] = 7
        rows.pop()
        self.assertEqual(tray, Tray(ROWS))


class RowsTest(Case):

    def test_with_row(self):
        tray = Tray(ROWS)
        self.assertEqual(tray.with_row((4, 5, 6)).places, tray.places + ((4, 5, 6),))
        self.assertEqual(tray.with_row(places=[LIMIT, 0, -LIMIT]).places[4], (LIMIT, 0, -LIMIT))
        self.assertEqual(tray, Tray(ROWS))
        wrong = odd_values() + [[1, 2], [1] * 8, "123", {1, 2, 3}, range(3), {1: 1, 2: 2, 3: 3}]
        for one in (tray, Tray([[0, 1, 2]] * 8), Tray([[0] * 7])):
            self.fails_for(wrong, BadTray, ["places"], one.with_row)
        self.is_no_list_of([1, 2, 3], no_integers() + [LIMIT + 1, -LIMIT - 1], BadTray, ["places"], tray.with_row)
        self.fails(Misfit, ["pins"], tray.with_row, [1, 2, 3, 4])
        self.fails(Misfit, ["pins"], Tray([[0, 1, 2]] * 8).with_row, [1] * 7)
        self.fails(TooMany, ["rows", 8], Tray([[0, 1, 2]] * 8).with_row, [1, 2, 3])
        self.assertEqual(len(Tray([[0, 1, 2]] * 7).with_row([1, 2, 3])), 8)

    def test_with_row_is_copied(self):
        row = [4, 5, 6]
        tray = Tray(ROWS).with_row(row)
        row[0] = 9
        self.assertEqual(tray.places[4], (4, 5, 6))

    def test_picked(self):
        tray = Tray(ROWS)
        self.assertEqual(tray.picked([2, 1]).places, ((0, 3, 3), (5, 6, 7)))
        self.assertEqual(tray.picked(numbers=(0, 1, 2, 3)), tray)
        for value in no_lists():
            self.fails(NoPicture, [value], tray.picked, value)
        for at in range(3):
            for value in no_integers() + [-1, 4, HUGE]:
                numbers = [0, 0, 0]
                numbers[at] = value
                self.fails(NoPicture, [value], tray.picked, numbers)
        self.fails(NoPicture, [5], tray.picked, [1, 1, 5, 6])
        self.fails(Twice, [2], tray.picked, [1, 2, 2, 1])
        self.fails(BadTray, ["rows"], tray.picked, [])
        self.fails(BadTray, ["rows"], tray.picked, ())

    def test_in_order(self):
        tray = Tray(ROWS)
        self.assertEqual(tray.in_order([1, 0, 2]).places, ((2, 0, 1), (6, 5, 7), (3, 0, 3), (0, 1, -1)))
        self.assertEqual(tray.in_order([1, 0, 2]).rows[0], (-2, -1))
        self.assertEqual(tray.in_order(pins=(0, 1, 2)), tray)
        for value in no_lists():
            self.fails(NoPin, [value], tray.in_order, value)
        for value in no_integers() + [-1, 3, HUGE]:
            self.fails(NoPin, [value], tray.in_order, [0, 0, value])
        self.fails(Twice, [1], tray.in_order, [0, 1, 1])
        self.fails(Twice, [0], tray.in_order, [2, 0, 1, 0])
        for pins in ([], [0, 1], (2,)):
            self.fails(Misfit, ["pins"], tray.in_order, pins)

    def test_kin_rows(self):
        self.assertEqual(Tray(ROWS).kin_rows(), ((0,), (1, 3), (2,)))
        self.assertEqual(Tray([[1, 1, 1], [0, 1, 2], [5, 5, 5], [2, 1, 0], [0, 2, 4], [7, 8, 9]]).kin_rows(), ((0, 2), (1, 3, 5), (4,)))
        self.assertEqual(Tray([[0, -1, 2]]).kin_rows(), ((0,),))
        for tray in some_trays(60, 100):
            told = tray.kin_rows()
            self.assertEqual(sorted(number for lot in told for number in lot), list(range(len(tray))))
            self.assertEqual(told, tuple(sorted(tuple(sorted(lot)) for lot in told)))
            for a, b in itertools.combinations(range(len(tray)), 2):
                self.assertIs(are_kin(tray.rows[a], tray.rows[b]), any(a in lot and b in lot for lot in told))

    def test_nothing_changes(self):
        tray, numbers, pins = Tray(ROWS), [1, 0], [2, 1, 0]
        tray.picked(numbers)
        tray.in_order(pins)
        tray.kin_rows()
        self.assertEqual((tray, numbers, pins), (Tray(ROWS), [1, 0], [2, 1, 0]))


class TextTest(Case):

    def test_texts(self):
        self.assertEqual(str(Tray(ROWS)), "0 2 1 / 5 6 7 / 0 3 3 / 1 0 -1")
        for rows in (ROWS, [[1, 2, 3, 4, 5, 6, 7]] * 8, [[LIMIT, -LIMIT, 0, 3]], [[0, 0, 0]]):
            self.assertEqual(Tray.read(str(Tray(rows))), Tray(rows))
        self.assertEqual(Tray.read(text="0 1 2").places, ((0, 1, 2),))

    def test_bent_texts(self):
        for rows in ([[0, -2, 1]], ROWS, [[1, 2, 3, 4, 5]] * 3, [[1, 2, 3, 4, 5, 6, 7]] * 2):
            self.reads_bent(Tray.read, str(Tray(rows)), tray_patterns())

    def test_longest_text(self):
        for rows, many in (([[1, 2, 3, 4, 5, 6, 7]] * 8, 63), ([[1, 2, 3]] * 8, 31)):
            for more in (" /", " 0", " ", " / 1 2 3"):
                self.fails(BadText, [0, many], Tray.read, str(Tray(rows)) + more)
        self.fails(BadText, [0, 7], Tray.read, "1 2 3 4 5 6 7 8")

    def test_wrong_texts(self):
        for text, item in (("", 0), ("0", 1), ("0 1", 2), ("0 1 /", 2), ("0 1 2 /", 4), ("0 2 1 / 5 6 7 8", 7), ("0 1 2 / 3", 5),
                           ("0 1 2 / 3 4 / 5", 6), ("0 1 2 3 / 3 4 5", 8), ("0 1 2 ; 3 4 5", 3), ("0 1 1000000001", 2),
                           ("0 1 2 / 3 4 5 / ", 8)):
            self.fails(BadText, [0, item], Tray.read, text)
        for value in odd_values():
            if not isinstance(value, str):
                self.fails(BadText, [0, 0], Tray.read, value)


if __name__ == "__main__":
    unittest.main()
