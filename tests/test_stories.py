"""Stories told again, and held against one another."""

import unittest

from farseen.desk import Desk
from farseen.desk_lines import ASKS
from farseen.errors import BadDesk, BadLine, BadText, Misfit, NoName, Nothing, Twice
from farseen.shelves import Shelf
from farseen.stories import parting, replay
from tests.helpers import Case, chance, odd_values
from tests.plain_desk import Lines, PlainDesk
from tests.test_desk import STORY, some_desk, state
from tests.test_desk_deeds import told_by


class ReplayTest(Case):

    def test_small(self):
        desk = replay(STORY)
        self.assertIsInstance(desk, Desk)
        self.assertEqual(state(desk), state(some_desk()))
        self.assertEqual([desk.undo() for _ in STORY], STORY[::-1])
        self.fails(Nothing, [], desk.undo)
        self.assertEqual(state(replay(())), state(Desk()))
        self.assertEqual(state(replay(lines=[])), state(Desk()))
        self.assertEqual(replay(tuple(STORY)), replay(STORY))

    def test_drawn(self):
        # Any story, told again line by line, makes the same desk.
        dice = chance(991)
        for seed in range(5):
            lines, desk, plain = Lines(992 + seed), Desk(), PlainDesk()
            for _ in range(120):
                if dice.randrange(5) == 0 and desk.story:
                    desk.undo()
                else:
                    told_by(desk, lines.deed())
            for line in desk.story:
                plain.deed(line)
            again = replay(desk.story)
            self.assertEqual((again.shelf, again.story), (desk.shelf, desk.story))
            self.assertEqual(again.shelf, Shelf(plain.shelf_things()))
            self.fails(Nothing, [], again.redo)
            while again.story:
                self.assertEqual(again.undo(), desk.undo())
                self.assertEqual(again.shelf, desk.shelf)

    def test_errors(self):
        wrong = [value for value in odd_values() if value not in ([], (), ["0"])] + ["tray t 0 2 1", {"tray t 0 2 1": 1}, iter(STORY), STORY + [None], ["what", 0], [STORY], [b"names"]]
        self.fails_for(wrong, BadDesk, ["lines"], replay)
        self.is_no_list_of(STORY, [None, 0, True, [], STORY, b""], BadDesk, ["lines"], replay)
        for at, line, error, fields in ((0, "what", BadText, [0, 0]), (2, "row x 0 0 0", NoName, ["x"]), (4, "tray t 0 0 0", Twice, ["t"]), (1, "row t 0", BadText, [0, 3]),
                                        (3, "take t 0 0 / 1 0 / 0 1 / 0 0", Misfit, ["kinds"]), (0, "", BadText, [0, 0])):
            self.fails_line(STORY[:at] + [line] + STORY[at:], at, error, fields)
        for word in ASKS:
            for rest in ("", " t", " x", " t t 0"):
                self.fails_line(STORY + [word + rest, "what"], 4, BadText, [0, 0])
                self.fails_line([word + rest] + STORY, 0, BadText, [0, 0])
        # Of two lines that cannot be done the first one is told, also ahead of an ask.
        self.fails_line(["drop x", "names"], 0, NoName, ["x"])
        self.fails_line(["names", "drop x"], 0, BadText, [0, 0])

    def fails_line(self, lines, index, error, fields):
        with self.assertRaises(BadLine) as caught:
            replay(lines)
        raised = caught.exception
        self.assertEqual((type(raised), raised.line, type(raised.error), list(vars(raised.error).values())), (BadLine, index, error, fields))


class PartingTest(Case):

    def test_small(self):
        desk = some_desk()
        fork = desk.twin()
        self.assertEqual(parting(desk, fork), 4)
        fork("drop t")
        self.assertEqual((parting(desk, fork), parting(fork, desk)), (4, 4))
        desk("row t 0 0 1")
        self.assertEqual(parting(one=desk, other=fork), 4)
        self.assertEqual((replay(fork.story) == fork, replay(desk.story).undo()), (True, "row t 0 0 1"))
        fork.undo()
        fork.undo()
        self.assertEqual(parting(desk, fork), 3)
        self.assertEqual((parting(Desk(), desk), parting(desk, Desk()), parting(Desk(), Desk())), (0, 0, 0))

    def test_alike_behind_unlike(self):
        # Lines that are alike behind one that is not are not counted; shelves do not matter.
        one, other = replay(STORY[:1] + ["row t 0 1 2", "row t 5 5 6"]), replay(STORY[:1] + ["row t 0 1 3", "row t 5 5 6"])
        self.assertEqual(parting(one, other), 1)
        other = replay(["tray t 0 2 2"] + ["row t 0 1 2", "row t 5 5 6"])
        self.assertEqual(parting(one, other), 0)
        self.assertEqual(parting(replay(STORY), replay(["tray t 0 1 2", "row t 0 3 3"])), 0)

    def test_errors(self):
        for value in odd_values() + [Shelf(), (), STORY]:
            self.fails(BadDesk, ["one"], parting, value, None)
            self.fails(BadDesk, ["other"], parting, Desk(), value)


if __name__ == "__main__":
    unittest.main()
