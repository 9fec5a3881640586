"""Every name of the interface: where it is defined, and what its arguments are called."""

import importlib
import inspect
import unittest

from farseen.albums import Album
from farseen.bodies import Body
from farseen.charts import Chart
from farseen.desk import Desk
from farseen.facts import Fact
from farseen.papers import Denial, Paper
from farseen.pictures import Picture
from farseen.sayings import Saying
from farseen.shelves import Shelf
from farseen.trays import Tray

FUNCTIONS = {
    "checks": ["is_integer(value)", "is_within(value, least, most)", "is_name(value)", "are_integers(value)", "is_ratio(value)",
               "is_primitive(value)", "first_twice(values)", "common_divisor(values)", "primitive(values)", "lowest(number, by)"],
    "papers": ["fixed(value)"],
    "ratios": ["plus(one, other)", "minus(one, other)", "times(one, other)", "over(one, other)", "compared(one, other)"],
    "tables": ["determinant(rows)", "rank(rows)", "dependence(rows)", "products(rows)"],
    "charts": ["never_below(chart)", "solid(chart)", "flat(chart)", "rest(chart, rows)"],
    "check_charts": ["shows_rank(rows, value)", "shows_never_below(chart, value)", "shows_rest(chart, rows, value)"],
    "kin": ["kin(one, other)", "groups(album)"],
    "check_kin": ["shows_kin(one, other, value)"],
    "traysettled": ["settle_tray(tray)", "tray_quarrels(tray)", "tray_chart_at(tray, c)", "c_of(tray, one, other)"],
    "steady": ["steady(tray)", "steady_row(tray, number)"],
    "check_trays": ["shows_tray(tray, value)", "shows_steady(tray, value)"],
    "axes": ["axis(one, other)"],
    "stretches": ["along(one, other)", "chart_at(one, other, c)", "depths_at(one, other, c)", "turn(one, other, chart)"],
    "leasts": ["least_square(one, other, step)", "least_volume(one, other, pins)"],
    "check_axes": ["shows_axis(one, other, value)", "shows_turn(one, other, chart, value)",
                   "shows_least_square(one, other, step, value)", "shows_least_volume(one, other, pins, value)"],
    "corners": ["corner(album, numbers)"],
    "reasons": ["reason(album)"],
    "settled": ["settle(album)", "kind(album)", "is_nones(album)"],
    "quarrels": ["quarrels(album)"],
    "struck": ["fewest_struck(album)", "settling(album)"],
    "check_settled": ["shows_corner(album, numbers, value)", "shows_settle(album, value)"],
    "signs": ["signs(row)", "sign_at(row, c)"],
    "judged": ["judged(album, saying)", "stretch_row(album, saying)", "equal_steps(album)", "right_steps(album)",
               "enough(album, sayings)"],
    "check_sayings": ["shows_signs(row, value)", "shows_judged(album, saying, value)"],
    "fits": ["fits(album, picture)"],
    "points": ["mix(album, four, pin)", "first_four(album)", "foretold(album, places)"],
    "newpins": ["new_pin(album, places)", "chart_with(album, places)"],
    "check_fits": ["shows_fits(album, picture, value)", "shows_mix(album, four, pin, value)",
                   "shows_foretold(album, places, value)", "shows_new_pin(album, places, value)"],
    "fronts": ["depths(album, picture)", "fronts(album, facts)"],
    "forced": ["forced_facts(album, facts)", "forcing(album, facts, fact)", "clashes(album, facts)"],
    "check_fronts": ["shows_depths(album, picture, value)", "shows_fronts(album, facts, value)"],
    "scales": ["scale(one, other)"],
    "sizes": ["sizes(album)", "sized_chart_at(album, c)", "judged_sized(album, saying)"],
    "evened": ["evened(album)"],
    "check_sizes": ["shows_scale(one, other, value)", "shows_sizes(album, value)", "shows_judged_sized(album, saying, value)",
                    "shows_evened(album, value)"],
    "together": ["together(album, other)"],
    "facings": ["facings(album, other, told=())", "faced(album, other, told=())"],
    "uprights": ["upright(tray, along)", "standing(album)"],
    "check_together": ["shows_together(album, other, value)", "shows_faced(album, other, told, value)", "shows_standing(album, value)"],
    "desk_lines": ["read_line(line)"],
    "desk_deeds": ["changed(shelf, line)"],
    "desk_asks": ["answer_of(shelf, line)"],
    "stories": ["replay(lines)", "parting(one, other)"],
}
CLASSES = {
    "papers": {"Paper": ["__init__(self, word, *parts)", "__eq__(self, other)"], "Denial": ["__eq__(self, other)"]},
    "tables": {"Rank": ["__init__(self, many, rows, columns)"]},
    "charts": {
        "Chart": ["__init__(self, rows, by=1)", "__eq__(self, other)", "__str__(self)", "product(self, step, its)",
                  "square(self, step)", "within(self, pins)", "volume(self, pins)"],
        "Squares": ["__init__(self, terms)"], "Below": ["__init__(self, row)"], "Rest": ["__init__(self, ratio, row)"],
        "NoRest": ["__init__(self, pins)"]},
    "bodies": {
        "Body": ["__init__(self, places)", "__eq__(self, other)", "chart(self)", "depths(self)", "seen(self)", "mirrored(self)",
                 "turned(self, four)", "moved(self, by)", "in_order(self, pins)", "album(self, fours)"]},
    "pictures": {
        "Picture": ["__init__(self, places)", "__eq__(self, other)", "__str__(self)", "read(text)", "products(self)",
                    "is_thin(self)", "shifted(self, x, y)", "turned(self, x=0, y=1)", "mirrored(self)", "times(self, number)",
                    "in_order(self, pins)", "without(self, pin)", "with_pin(self, x, y)"]},
    "albums": {
        "Album": ["__init__(self, pictures)", "__eq__(self, other)", "__len__(self)", "__str__(self)", "read(text)",
                  "with_picture(self, picture)", "joined(self, other)", "picked(self, numbers)", "without(self, numbers)",
                  "in_order(self, pins)", "without_pin(self, pin)", "with_pin(self, places)"]},
    "kin": {"Kin": ["__init__(self, hand, turn)"], "NotKin": ["__init__(self, pin, its)"]},
    "trays": {
        "Tray": ["__init__(self, rows)", "__eq__(self, other)", "__len__(self)", "__str__(self)", "read(text)",
                 "with_row(self, places)", "picked(self, numbers)", "in_order(self, pins)", "kin_rows(self)"]},
    "traysettled": {
        "TrayFree": ["__init__(self)"], "TrayStretch": ["__init__(self, one, other)"], "TrayOne": ["__init__(self, chart)"],
        "TrayThin": ["__init__(self, number)"], "TrayUnlike": ["__init__(self, one, other)"],
        "TrayApart": ["__init__(self, one, other, third, pins)"], "TrayNoTriangle": ["__init__(self, one, other, third, x, y)"],
        "TrayMisfit": ["__init__(self, one, other, third, fourth, square)"]},
    "steady": {"Steady": ["__init__(self, double, again)"], "SteadyOpen": ["__init__(self)"],
               "Unsteady": ["__init__(self, number)"]},
    "axes": {"Axis": ["__init__(self, mine, its)"], "SamePlane": ["__init__(self, hand)"], "Thin": ["__init__(self, number, row)"],
             "Apart": ["__init__(self, one, other, pins)"], "Unalike": ["__init__(self, one, other, pin, its)"],
             "Unequal": ["__init__(self, one, other, mine, its)"]},
    "stretches": {"Along": ["__init__(self, square, row, mine, its)"], "Turn": ["__init__(self, c)"],
                  "Unfit": ["__init__(self, number, pins)"]},
    "leasts": {"Least": ["__init__(self, number, c)"], "Sole": ["__init__(self, number)"]},
    "corners": {"Corner": ["__init__(self, axes, products)"], "Hinge": ["__init__(self, ends, ratios)"]},
    "reasons": {"NoCorner": ["__init__(self, one, other, third, determinant)"], "NoTriangle": ["__init__(self, one, other, third, x, y)"],
                "Misfits": ["__init__(self, one, other, third, fourth, chart, paper)"]},
    "settled": {"Free": ["__init__(self)"], "Stretch": ["__init__(self, one, other)"], "One": ["__init__(self, chart)"]},
    "sayings": {
        "Saying": ["__init__(self, terms, word, number)", "__eq__(self, other)", "__str__(self)", "read(text)", "value(self, chart)",
                   "holds(self, chart)", "form(self, pins)", "others(self)", "times(self, number)", "longer(step, its)",
                   "right(step, its)"]},
    "signs": {"Signs": ["__init__(self, below, zero, above)"]},
    "judged": {"Sure": ["__init__(self, squares)"], "Open": ["__init__(self, one, other)"], "Never": ["__init__(self, squares)"]},
    "fits": {"Fits": ["__init__(self, kind, rest)"]},
    "points": {"Mix": ["__init__(self, ratios)"], "InPlane": ["__init__(self, row)"], "Foretold": ["__init__(self, places)"],
               "Loose": ["__init__(self, pins)"], "Amiss": ["__init__(self, pin)"]},
    "newpins": {"Place": ["__init__(self, four, mix, places)"], "Line": ["__init__(self, places, directions)"],
                "Anywhere": ["__init__(self)"], "NoPlace": ["__init__(self, numbers)"]},
    "facts": {"Fact": ["__init__(self, picture, near, far)", "__eq__(self, other)", "__str__(self)", "read(text)", "turned(self)"]},
    "fronts": {"Depths": ["__init__(self, square, row)"], "Hands": ["__init__(self, hands)"], "Ranges": ["__init__(self, plus, minus)"],
               "Order": ["__init__(self, pins)"], "Against": ["__init__(self, numbers)"]},
    "scales": {"Scale": ["__init__(self, square)"], "Uneven": ["__init__(self, one, other, pins)"]},
    "sizes": {"SizedFree": ["__init__(self, squares)"], "SizedStretch": ["__init__(self, squares, one, other)"],
              "SizedOne": ["__init__(self, squares, chart)"], "SizeRing": ["__init__(self, one, other, third, square)"]},
    "evened": {"Evened": ["__init__(self, numbers, album)"], "NoEvening": ["__init__(self, number, square)"]},
    "together": {"Same": ["__init__(self, chart)"], "Maybe": ["__init__(self)"], "Parted": ["__init__(self, reason)"]},
    "facings": {"Faces": ["__init__(self, order)"], "NoFacing": ["__init__(self, reasons)"]},
    "uprights": {"Standing": ["__init__(self, directions, along, across)"], "NoAxis": ["__init__(self)"],
                 "Leaning": ["__init__(self, one, other, number, pins)"]},
    "shelves": {"Shelf": ["__init__(self, things=())", "__eq__(self, other)", "thing(self, name)", "facts(self, name)"]},
    "desk": {
        "Desk": ["__init__(self)", "__eq__(self, other)", "__len__(self)", "__contains__(self, value)", "__call__(self, line)",
                 "told(self, *lines)", "tried(self, *lines)", "undo(self)", "redo(self)", "twin(self)"]},
}


ERRORS = ("SeenError BadNumber BadRatio BadTable BadChart BadBody BadPicture BadAlbum BadTray BadSaying BadFact BadPaper BadDesk Misfit Missing NoPin "
          "NoPicture NoFact NoName Twice Impossible TooMany Nothing BadText BadLine").split(" ")


def some_values():
    """Pairs of a value of each class that keeps something, and the names of its attributes."""
    picture = Picture([(0, 0), (1, 0), (0, 1), (1, 1)])
    return [(Chart([[1, 0], [0, 1]]), ["rows", "by", "pins"]), (Body([(0, 0, 0), (1, 0, 0), (0, 1, 0), (0, 0, 1)]), ["places", "pins", "rows"]),
            (picture, ["places", "pins", "rows"]), (Album([picture]), ["pictures", "rows", "pins"]), (Tray([[0, 1, 2]]), ["places", "rows", "pins"]),
            (Saying.right((0, 1), (0, 2)), ["terms", "word", "number", "pins"]), (Fact(0, 1, 2), ["picture", "near", "far"]),
            (Shelf(), ["things", "names"]), (Desk(), ["shelf", "story"]), (Paper("a"), ["word", "parts"]), (Denial("a"), ["word", "parts"])]


class InterfaceTest(unittest.TestCase):

    def check(self, told, made):
        name, rest = told.split("(", 1)
        self.assertEqual(name + str(inspect.signature(made)), name + "(" + rest)

    def test_functions(self):
        for file, rows in FUNCTIONS.items():
            module = importlib.import_module("farseen." + file)
            for told in rows:
                made = getattr(module, told.split("(")[0])
                self.assertEqual(made.__module__, module.__name__)
                self.check(told, made)

    def test_attributes(self):
        for value, names in some_values():
            self.assertTrue(set(names) <= set(vars(value)), (type(value), names))

    def test_constants_and_errors(self):
        module = importlib.import_module("farseen.desk_lines")
        self.assertEqual((type(module.DEEDS), type(module.ASKS), len(module.DEEDS), len(module.ASKS)), (tuple, tuple, 10, 16))
        module = importlib.import_module("farseen.errors")
        for name in ERRORS:
            self.assertEqual(getattr(module, name).__module__, "farseen.errors")

    def test_classes(self):
        for file, classes in CLASSES.items():
            module = importlib.import_module("farseen." + file)
            for name, rows in classes.items():
                made = getattr(module, name)
                self.assertEqual(made.__module__, module.__name__)
                for told in rows:
                    method = vars(made)[told.split("(")[0]]
                    self.check(told, getattr(method, "__func__", method))


if __name__ == "__main__":
    unittest.main()
