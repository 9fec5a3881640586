"""Papers and denials, and all classes of them."""

import importlib
import os
import unittest

import farseen
from farseen.papers import Denial, Paper, fixed
from tests.helpers import Odd, odd_values

PAPERS = {
    "tables": {"Rank": ["many", "rows", "columns"]},
    "charts": {"Squares": ["terms"], "Rest": ["ratio", "row"]},
    "kin": {"Kin": ["hand", "turn"]},
    "traysettled": {"TrayFree": [], "TrayStretch": ["one", "other"], "TrayOne": ["chart"]},
    "steady": {"Steady": ["double", "again"], "SteadyOpen": []},
    "axes": {"Axis": ["mine", "its"]},
    "stretches": {"Along": ["square", "row", "mine", "its"], "Turn": ["c"]},
    "leasts": {"Least": ["number", "c"], "Sole": ["number"]},
    "corners": {"Corner": ["axes", "products"], "Hinge": ["ends", "ratios"]},
    "settled": {"Free": [], "Stretch": ["one", "other"], "One": ["chart"]},
    "signs": {"Signs": ["below", "zero", "above"]},
    "judged": {"Sure": ["squares"], "Open": ["one", "other"]},
    "fits": {"Fits": ["kind", "rest"]},
    "points": {"Mix": ["ratios"], "Foretold": ["places"]},
    "newpins": {"Place": ["four", "mix", "places"], "Line": ["places", "directions"], "Anywhere": []},
    "fronts": {"Depths": ["square", "row"], "Hands": ["hands"], "Ranges": ["plus", "minus"], "Order": ["pins"]},
    "scales": {"Scale": ["square"]},
    "sizes": {"SizedFree": ["squares"], "SizedStretch": ["squares", "one", "other"], "SizedOne": ["squares", "chart"]},
    "evened": {"Evened": ["numbers", "album"]},
    "together": {"Same": ["chart"], "Maybe": []},
    "facings": {"Faces": ["order"]},
    "uprights": {"Standing": ["directions", "along", "across"]},
}
DENIALS = {
    "charts": {"Below": ["row"], "NoRest": ["pins"]},
    "kin": {"NotKin": ["pin", "its"]},
    "traysettled": {
        "TrayThin": ["number"], "TrayUnlike": ["one", "other"], "TrayApart": ["one", "other", "third", "pins"],
        "TrayNoTriangle": ["one", "other", "third", "x", "y"], "TrayMisfit": ["one", "other", "third", "fourth", "square"]},
    "steady": {"Unsteady": ["number"]},
    "axes": {
        "SamePlane": ["hand"], "Thin": ["number", "row"], "Apart": ["one", "other", "pins"],
        "Unalike": ["one", "other", "pin", "its"], "Unequal": ["one", "other", "mine", "its"]},
    "stretches": {"Unfit": ["number", "pins"]},
    "reasons": {
        "NoCorner": ["one", "other", "third", "determinant"], "NoTriangle": ["one", "other", "third", "x", "y"],
        "Misfits": ["one", "other", "third", "fourth", "chart", "paper"]},
    "judged": {"Never": ["squares"]},
    "points": {"InPlane": ["row"], "Loose": ["pins"], "Amiss": ["pin"]},
    "newpins": {"NoPlace": ["numbers"]},
    "fronts": {"Against": ["numbers"]},
    "scales": {"Uneven": ["one", "other", "pins"]},
    "sizes": {"SizeRing": ["one", "other", "third", "square"]},
    "evened": {"NoEvening": ["number", "square"]},
    "together": {"Parted": ["reason"]},
    "facings": {"NoFacing": ["reasons"]},
    "uprights": {"NoAxis": [], "Leaning": ["one", "other", "number", "pins"]},
}


def classes_of(table):
    for module, told in table.items():
        for name, fields in told.items():
            yield getattr(importlib.import_module("farseen." + module), name), name, fields


class FixedTest(unittest.TestCase):

    def test_lists_become_tuples(self):
        for value, right in (([], ()), ((), ()), ([1, [2, (3, [4])]], (1, (2, (3, (4,))))), ([[[]]], (((),),)),
                             (({"a": [1]},), ({"a": [1]},)), ("ab", "ab"), (None, None)):
            self.assertEqual(fixed(value), right)
            self.assertIs(type(fixed(value)), type(right))

    def test_others_stay(self):
        for value in odd_values():
            if not isinstance(value, (list, tuple)):
                self.assertIs(fixed(value), value)
                self.assertIs(fixed([value])[0], value)

    def test_deep(self):
        value, right = 0, 0
        for _ in range(30):
            value, right = [value, "x"], (right, "x")
        self.assertEqual(fixed(value), right)


class PaperTest(unittest.TestCase):

    def test_truth(self):
        self.assertIs(bool(Paper("no")), True)
        self.assertIs(bool(Denial("no")), False)
        self.assertIs(bool(Denial("no", 1, [2])), False)
        self.assertTrue(issubclass(Denial, Paper))

    def test_parts(self):
        rows = [1, [2, 3]]
        paper = Paper("note", rows, "a")
        rows[1].append(4)
        self.assertEqual((paper.word, paper.parts), ("note", ((1, (2, 3)), "a")))
        self.assertEqual(Paper("note").parts, ())
        self.assertEqual(Denial("no", [1]).parts, ((1,),))
        self.assertEqual(Denial("no", [1]).word, "no")
        self.assertEqual(Paper(word="note").word, "note")

    def test_equal(self):
        self.assertTrue(Paper("a", [1, 2]) == Paper("a", (1, 2)))
        self.assertTrue(Paper("a", 1) == Paper("a", True))
        self.assertTrue(Denial("a") == Denial("a"))
        for one, other in ((Paper("a"), Paper("b")), (Paper("a"), Denial("a")), (Denial("a"), Paper("a")),
                           (Paper("a", 1), Paper("a", 2)), (Paper("a", 1), Paper("a")), (Paper("a", 1), Paper("a", 1, 1)),
                           (Denial("a", 1), Denial("a", 2)), (Denial("a"), Denial("b"))):
            self.assertIs(one == other, False)
            self.assertIs(one != other, True)
        class Foreign:
            word, parts = "a", ()
        Foreign.__name__ = "Paper"
        self.assertIs(Paper("a") == Foreign(), False)
        for value in odd_values():
            self.assertIs(Paper("a") == value, False)
            self.assertIs(Denial("a") == value, False)

    def test_equality_is_defined_in_both(self):
        self.assertIn("__eq__", vars(Paper))
        self.assertIn("__eq__", vars(Denial))


class ClassesTest(unittest.TestCase):

    def check_class(self, made, name, fields, truth):
        self.assertEqual(made.__name__, name)
        self.assertTrue(issubclass(made, Paper))
        self.assertEqual(issubclass(made, Denial), not truth)
        values = [[Odd(), [at]] for at in range(len(fields))]
        right = tuple((value[0], (at,)) for at, value in enumerate(values))
        for paper in (made(*values), made(**dict(zip(fields, values)))):
            self.assertEqual((paper.word, paper.parts, bool(paper)), (name.lower(), right, truth))
            self.assertEqual([getattr(paper, field) for field in fields], list(right))
        for value in odd_values():
            paper = made(*[value for _ in fields])
            self.assertTrue(all(repr(getattr(paper, field)) == repr(fixed(value)) for field in fields))
        self.assertEqual(made(*range(len(fields))), made(*range(len(fields))))
        self.assertNotEqual(made(*values), Paper(name.lower(), *values))
        self.assertNotEqual(made(*values), Denial(name.lower(), *values))
        for at in range(len(fields)):
            other = list(values)
            other[at] = None
            self.assertNotEqual(made(*values), made(*other))

    def test_papers(self):
        for made, name, fields in classes_of(PAPERS):
            self.check_class(made, name, fields, True)

    def test_denials(self):
        for made, name, fields in classes_of(DENIALS):
            self.check_class(made, name, fields, False)

    def test_all_are_there(self):
        # The tables above name every class of papers of the package, each in its file.
        own = set()
        for file in sorted(os.listdir(os.path.dirname(farseen.__file__))):
            if file.endswith(".py") and file != "__init__.py":
                module = importlib.import_module("farseen." + file[:-3])
                own |= {(file[:-3], name) for name, value in vars(module).items()
                        if isinstance(value, type) and issubclass(value, Paper) and value.__module__ == module.__name__}
        told = {(file, name) for table in (PAPERS, DENIALS) for file, names in table.items() for name in names}
        self.assertEqual(own - {("papers", "Paper"), ("papers", "Denial")}, told)

    def test_classes_differ(self):
        told = list(classes_of(PAPERS)) + list(classes_of(DENIALS))
        for made, name, fields in told:
            for other, its_name, its_fields in told:
                if name != its_name and len(fields) == len(its_fields):
                    self.assertNotEqual(made(*fields), other(*fields))


if __name__ == "__main__":
    unittest.main()
