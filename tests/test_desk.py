"""The desk: told, tried, taken back and done again."""

import unittest
from collections import Counter

from farseen.desk import Desk
from farseen.errors import BadLine, BadText, Impossible, Misfit, NoName, NoPicture, Nothing, SeenError, Twice
from farseen.settled import settle
from farseen.shelves import Shelf
from tests.helpers import Case, chance, odd_values
from tests.plain_desk import Lines, PlainDesk
from tests.test_desk_deeds import told_by
from tests.test_settled import BAD
from tests.test_together import FRONT, SIDE

STORY = ["tray t 0 2 1", "row t 0 1 2", "row t 0 3 3", "strike t 0"]


def some_desk():
    desk = Desk()
    desk.told(*STORY)
    return desk


def state(desk):
    """All that a desk tells: what is kept, the story, what can be taken back and done again."""
    back, forth = [], []
    twin = desk.twin()
    while twin.story:
        back.append((twin.undo(), twin.shelf.things))
    twin = desk.twin()
    while True:
        try:
            forth.append((twin.redo(), twin.shelf.things))
        except Nothing:
            return desk.shelf.things, desk.story, back, forth


class DeskTest(Case):

    def fails_line(self, index, error, fields, call, *args):
        with self.assertRaises(BadLine) as caught:
            call(*args)
        self.assertIs(type(caught.exception), BadLine)
        self.assertEqual((caught.exception.line, type(caught.exception.error), list(vars(caught.exception.error).values())), (index, error, fields))

    def test_small(self):
        desk = Desk()
        self.assertEqual((desk.shelf, desk.story, len(desk), desk.told(), desk.tried()), (Shelf(), (), 0, (), ()))
        self.assertEqual(desk.told("tray t 0 2 1", "row t 0 1 2", "kind t", "row t 0 3 3", "chart t", "strike t 0"),
                         ("3", "1", "traystretch", "2", "28 26 / 26 28 : 3", "2"))
        self.assertEqual(desk.story, tuple(STORY))
        before = state(desk)
        self.fails_line(1, NoPicture, [7], desk.told, "row t 5 5 5", "strike t 7")
        self.assertEqual(state(desk), before)
        self.assertEqual([desk.undo(), desk("kind t"), desk.redo(), len(desk), "t" in desk, desk.tried("drop t", "names")],
                         ["strike t 0", "trayone", "strike t 0", 1, True, ("0", "-")])
        self.assertEqual(state(desk), before)

    def test_both_ends(self):
        desk = some_desk()
        self.fails(Nothing, [], desk.redo)
        for line in STORY[::-1]:
            self.assertEqual(desk.undo(), line)
        self.fails(Nothing, [], desk.undo)
        self.assertEqual((desk.shelf, desk.story, len(desk)), (Shelf(), (), 0))
        for line in STORY:
            self.assertEqual(desk.redo(), line)
        self.fails(Nothing, [], desk.redo)
        self.assertEqual(state(desk), state(some_desk()))
        self.fails(Nothing, [], Desk().undo)
        self.fails(Nothing, [], Desk().redo)

    def test_redo_behind_others(self):
        # An ask, a try, a refused line and an empty call leave what can be done again; a new deed does not, nor does an undo of it.
        for between in (lambda desk: desk("kind t"), lambda desk: desk.told("names", "show t"), lambda desk: desk.tried("row t 5 5 5", "drop t"), lambda desk: desk.told(),
                        lambda desk: told_by(desk, "row x 0 0 0"), lambda desk: told_by(desk.told, "row t 5 5 5", "strike t 9"), lambda desk: told_by(desk, None),
                        lambda desk: told_by(desk.tried, "drop t", "drop t"), lambda desk: desk.twin()("drop t"), len, lambda desk: "t" in desk, lambda desk: desk == Desk()):
            desk = some_desk()
            desk.undo()
            desk.undo()
            before = state(desk)
            between(desk)
            self.assertEqual(state(desk), before)
            self.assertEqual([desk.redo(), desk.redo()], STORY[2:])
            self.assertEqual(desk, some_desk())
        for between in (lambda desk: desk("row t 5 5 5"), lambda desk: desk.told("names", "row t 5 5 5", "kind t"), lambda desk: desk("row t 0 3 3")):
            desk = some_desk()
            desk.undo()
            desk.undo()
            between(desk)
            self.fails(Nothing, [], desk.redo)
            desk.undo()
            self.assertEqual(desk.redo(), desk.story[-1])
            self.fails(Nothing, [], desk.redo)
            self.assertEqual(desk.story[:2], tuple(STORY[:2]))

    def test_deed_by_redo(self):
        desk = some_desk()
        for _ in range(3):
            desk.undo()
        self.assertEqual([desk.redo(), desk("kind t"), desk.redo(), desk.undo(), desk.redo(), desk.redo()],
                         ["row t 0 1 2", "traystretch", "row t 0 3 3", "row t 0 3 3", "row t 0 3 3", "strike t 0"])

    def test_lines_that_change_nothing(self):
        desk = Desk()
        desk.told(f"album a {FRONT}", "join b a a", "drop b", f"take a {FRONT}", "strike a 1")
        self.assertEqual(len(desk.story), 5)
        self.assertEqual([desk.undo() for _ in range(2)], ["strike a 1", f"take a {FRONT}"])
        self.assertEqual(desk.shelf.thing("a").pictures, (FRONT,))

    def test_errors(self):
        desk = some_desk()
        before = state(desk)
        for line, error, fields in (("row x 0 0 0", NoName, ["x"]), ("tray t 0 0 0", Twice, ["t"]), ("stands t", Misfit, ["kinds"]), ("what", BadText, [0, 0]), ("strike t x", BadText, [0, 2])):
            self.fails(error, fields, desk, line)
            for call in (desk.told, desk.tried):
                self.fails_line(0, error, fields, call, line)
                self.fails_line(0, error, fields, call, line, "drop t", None)
                self.fails_line(2, error, fields, call, "row t 1 2 3", "kind t", line, "drop t")
            self.assertEqual(state(desk), before)
        for value in odd_values():
            self.fails(BadText, [0, 0], desk, value)
            self.fails_line(0, BadText, [0, 0], desk.told, value)
            self.fails_line(1, BadText, [0, 0], desk.tried, "drop t", value)
            self.assertEqual(state(desk), before)
        torn = Desk()
        torn.told(*[f"album a {picture}" if at == 0 else f"take a {picture}" for at, picture in enumerate(BAD.pictures)])
        with self.assertRaises(BadLine) as caught:
            torn.told("kind a", "settling a")
        self.assertEqual((caught.exception.line, type(caught.exception.error), caught.exception.error.paper), (1, Impossible, settle(BAD)))

    def test_kept(self):
        desk = some_desk()
        desk(f"album box {FRONT}")
        self.assertEqual(len(desk), 2)
        for value in odd_values() + ["x", "T", "t ", "tt", ("t",), ["box"], b"t"]:
            self.assertIs(value in desk, False)
        self.assertIs("t" in desk, True)
        self.assertIs("box" in desk, True)
        desk("drop t")
        self.assertEqual((len(desk), "t" in desk), (1, False))

    def test_equal(self):
        # Equal shelves make equal desks, whatever their stories.
        one, other = some_desk(), Desk()
        other.told("tray t 0 1 2", "row t 0 3 3")
        self.assertTrue(one == other)
        self.assertIs(one != other, False)
        other.told(f"album a {FRONT}", "front a 0 0 1")
        self.assertIs(one == other, False)
        one.told(f"album a {FRONT}")
        self.assertIs(one == other, False)
        one("front a 0 0 1")
        self.assertTrue(one == other)
        for value in odd_values() + [one.shelf, one.story]:
            self.assertIs(one == value, False)

    def test_twin(self):
        desk = some_desk()
        desk.undo()
        before = state(desk)
        twin = desk.twin()
        self.assertEqual(state(twin), before)
        self.assertTrue(twin == desk)
        twin.told("drop t", f"album a {FRONT}", f"take a {SIDE}")
        twin.undo()
        self.assertEqual(state(desk), before)
        twin = desk.twin()
        kept = state(twin)
        desk.redo()
        desk("drop t")
        self.assertEqual(state(twin), kept)
        self.assertEqual(twin.redo(), "strike t 0")


class DrawnTest(Case):

    def test_drawn(self):
        # Against a list of plain desks, one behind each line of the story, and those that can be done again.
        found = Counter()
        for seed in range(6):
            lines, dice, desk = Lines(970 + seed), chance(980 + seed), Desk()
            plain, story, undone = [PlainDesk()], [], []
            for _ in range(250):
                what = dice.choice(("deed",) * 5 + ("ask", "ask", "told", "tried", "undo", "undo", "redo", "redo"))
                if what == "undo" and story:
                    line = story.pop()
                    undone.append((line, plain.pop()))
                    self.assertEqual(desk.undo(), line)
                elif what == "redo" and undone:
                    line, its = undone.pop()
                    story.append(line)
                    plain.append(its)
                    self.assertEqual(desk.redo(), line)
                elif what in ("undo", "redo"):
                    self.fails(Nothing, [], getattr(desk, what))
                    what += " nothing"
                else:
                    what += " " + self.lines(desk, lines, dice, what, plain, story, undone)
                found[what] += 1
                self.assertEqual(desk.shelf, Shelf(plain[-1].shelf_things()))
                self.assertEqual((desk.story, len(desk)), (tuple(story), len(plain[-1].names)))
            self.assertEqual([desk.redo() for _ in undone], [line for line, _ in undone[::-1]])
            self.fails(Nothing, [], desk.redo)
        self.assertTrue(all(found[key] > 2 for key in ("undo", "redo", "undo nothing", "redo nothing", "deed done", "deed refused", "ask done", "ask refused", "told done",
                                                       "told refused", "tried done", "tried refused")), found)

    def lines(self, desk, lines, dice, what, plain, story, undone):
        many = 1 if what in ("deed", "ask") else dice.randrange(0, 4)
        told = [lines.deed() if what == "deed" or what != "ask" and dice.randrange(2) else lines.ask() for _ in range(many)]
        now, behind, answers, error = plain[-1].copy(), [], [], None
        for index, line in enumerate(told):
            is_deed = line.split(" ")[0] in ("album", "tray", "take", "row", "strike", "front", "unsay", "join", "upright", "drop")
            now = now.copy()
            right = told_by(now.deed if is_deed else now.ask, line)
            if isinstance(right, tuple):
                error = (index, right)
                break
            answers.append(right)
            if is_deed:
                behind.append((line, now.copy()))
        if what in ("deed", "ask"):
            self.assertEqual(told_by(desk, told[0]), error[1] if error else answers[0])
        else:
            self.check_call(desk.told if what == "told" else desk.tried, told, answers, error)
        if error is None and what != "tried":
            for line, its in behind:
                story.append(line)
                plain.append(its)
            if behind:
                undone.clear()
        return "refused" if error else "done"

    def check_call(self, call, told, answers, error):
        try:
            self.assertEqual(call(*told), tuple(answers))
            self.assertIsNone(error)
        except BadLine as raised:
            index, right = error
            self.assertEqual((raised.line, type(raised.error), tuple(vars(raised.error).values())), (index,) + right)

    def test_many_lines(self):
        lines = Lines(990)
        desk = Desk()
        deeds = [lines.deed() for _ in range(1500)]

        def tell():
            for line in deeds:
                try:
                    desk(line)
                except SeenError:
                    pass
        self.takes_short(tell)
        self.assertGreater(len(desk.story), 200)
        while desk.story:
            desk.undo()
        self.assertEqual(desk, Desk())


if __name__ == "__main__":
    unittest.main()
