"""How the lines of a desk are read."""

import unittest

from farseen.desk_lines import ASKS, DEEDS, read_line
from farseen.errors import BadText
from farseen.pictures import Picture
from farseen.sayings import Saying
from farseen.trays import Tray
from tests.helpers import Case, odd_values, picture_patterns, saying_patterns

PICTURE, ROW, SAYING = "1 1 / 3 1 / 1 4 / 0 0", "0 2 1 7", "1 0 1 0 2 + -3 4 1 2 2 below -7"
# What follows each first item, but for texts; N .. and T .. may be told up to forty times here.
SIMPLE = {"strike": (["a"] + ["u"] * 40, range(2, 42)), "front": (["a", "u", "u", "u"], [4]), "unsay": (["a"] + ["u"] * 40, range(2, 42)),
          "join": (["a", "a", "a"], [3]), "upright": (["a", "a"] + ["i"] * 40, range(3, 43)), "drop": (["a"], [1]), "names": ([], [0]),
          "same": (["a", "a"], [2])}
for word in "show facts kind chart groups quarrels struck settling steady fronts sizes stands".split(" "):
    SIMPLE[word] = (["a"], [1])
TEXTS = {"album": picture_patterns(), "take": picture_patterns(), "fits": picture_patterns(), "is": saying_patterns(),
         "tray": [(["n"] * 7, [3, 4, 5, 6, 7])], "row": [(["n"] * 7, [3, 4, 5, 6, 7])]}
LINES = ["album box " + PICTURE, "tray t " + ROW, "take a1 " + PICTURE + " / -5 1000000000", "row t " + ROW + " -1 2 3", "strike a 0 3 3 12", "strike a 0",
         "front a 0 0 0", "front z99 7 123456789 3", "unsay a 0 1", "join new name other", "join a a a", "upright up t 0 -7 12345678901234567890", "upright a b 0",
         "drop abcdefghijkl", "names", "show a", "facts a", "kind kind", "chart a", "groups a", "quarrels a", "struck a", "settling a", "steady a",
         "is a " + SAYING, "is a 1 0 1 0 1 just 0", "fits a " + PICTURE, "fronts a", "sizes a", "same a b", "stands a"]


def line_patterns():
    """All lines, by their first items."""
    found = [([word] + kinds, [many + 1 for many in ends]) for word, (kinds, ends) in SIMPLE.items()]
    for word, patterns in TEXTS.items():
        found += [([word, "a"] + kinds, [many + 2 for many in ends]) for kinds, ends in patterns]
    return found


def written(line):
    """The line that is made of what was read of it."""
    return " ".join(map(str, read_line(line)))


class LinesTest(Case):

    def test_tables(self):
        self.assertEqual(DEEDS, ("album", "tray", "take", "row", "strike", "front", "unsay", "join", "upright", "drop"))
        self.assertEqual(ASKS, ("names", "show", "facts", "kind", "chart", "groups", "quarrels", "struck", "settling", "steady", "is", "fits", "fronts", "sizes",
                                "same", "stands"))
        self.assertEqual(sorted(set(SIMPLE) | set(TEXTS)), sorted(DEEDS + ASKS))

    def test_small(self):
        self.assertEqual(read_line("strike a 0 3"), ("strike", "a", 0, 3))
        self.assertEqual(read_line("names"), ("names",))
        self.assertEqual(read_line(line="join a b c"), ("join", "a", "b", "c"))
        self.assertEqual(read_line("upright a b -1 0 20"), ("upright", "a", "b", -1, 0, 20))
        self.assertEqual(read_line("tray t 0 2 1"), ("tray", "t", Tray([[0, 2, 1]])))
        self.assertEqual(read_line("row t 5 2 1 -4"), ("row", "t", Tray([[5, 2, 1, -4]])))
        self.assertEqual(read_line("take a " + PICTURE), ("take", "a", Picture.read(PICTURE)))
        self.assertEqual(read_line("is a " + SAYING), ("is", "a", Saying.read(SAYING)))
        for line in LINES:
            told = read_line(line)
            self.assertIs(type(told), tuple)
            self.assertEqual(written(line), line)

    def test_examples_of_errors(self):
        for line, item in (("row t 0 2 1 / 0 1 2", 5), ("", 0), (" names", 0), ("names ", 1), ("names a", 1), ("name", 0), ("Names", 0), ("show", 1), ("show A", 1), ("show 1a", 1),
                           ("show abcdefghijklm", 1), ("show a b", 2), ("strike a", 2), ("strike a -1", 2), ("strike a 0 x", 3), ("strike a 0 ", 3), ("front a 0 1", 4),
                           ("front a 0 1 2 3", 5), ("join a b", 3), ("join a b c d", 4), ("upright a b", 3), ("upright a b 1 x", 4), ("drop a a", 2), ("tray t 0 1", 4),
                           ("tray t 0 1 2 3 4 5 6 7", 9), ("tray t 0 1 1000000001", 4), ("album a 0 0 / 1 0 / 0 1", 10), ("album a 0 0 / 1 0 / 0 1 / 1 1 ; 0 0", 13),
                           ("is a 1 0 1 0 7 just 0", 6), ("is a 1 0 1 0 1 just", 8), ("is a 1 0 1 0 1 just 0 0", 9), ("fits a", 2), ("same a", 2), ("album", 1), ("album 9", 1)):
            self.fails(BadText, [0, item], read_line, line)

    def test_bent(self):
        patterns = line_patterns()
        words = ("a", "names", "show", "album", "t1", "join", "A", "a-b", "above", "just", "+", "8", "x" * 12, "x" * 13, "\u00e9", "a ", "-5", "7", "0x")
        for line in LINES:
            self.reads_bent(written, line, patterns, words)

    def test_exchanged(self):
        patterns = line_patterns()
        for line in LINES:
            items = line.split(" ")
            for a in range(len(items)):
                for b in range(a):
                    bent = list(items)
                    bent[a], bent[b] = items[b], items[a]
                    self.reads(written, " ".join(bent), patterns)
                self.reads(written, " ".join(items[:a] + [items[a]] * 2 + items[a + 1:]), patterns)

    def test_no_strings(self):
        for value in odd_values() + [("names",), ["names"], b"names"]:
            if not isinstance(value, str):
                self.fails(BadText, [0, 0], read_line, value)

    def test_long(self):
        for line in ("strike a" + " 0" * 9990, "upright a b" + " -1" * 6000, "album a" + " 0" * 9990, "is a" + " 0" * 9990, " " * 20000, "names" * 4000):
            try:
                self.takes_short(read_line, line)
            except BadText as error:
                self.assertGreaterEqual(error.item, 0)


if __name__ == "__main__":
    unittest.main()
