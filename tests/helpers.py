"""What all tests share: values of every kind, errors with their fields, slow but plain reckoning."""

import itertools
import random
import re
import time
import unittest
from fractions import Fraction
from math import gcd

from farseen.albums import Album
from farseen.errors import BadText, SeenError
from farseen.papers import Denial, Paper, fixed
from farseen.pictures import Picture

LIMIT = 10 ** 9
HUGE = 10 ** 200 + 7

SQUARE = [(0, 0), (3, 0), (0, 3), (0, 0)]


class Odd:
    """A value that is nothing the program knows."""

    parts = ()


def odd_values():
    """Values of every kind, made anew; none of them is a list or a tuple of anything but what they show."""
    return [None, True, False, 0, 1, -1, HUGE, 1.0, 2j, "", "0", "a", "1 2", b"0", [], (), {}, set(), frozenset(),
            range(4), [None], [True], ["0"], [1.0], [[]], ((),), [[1], [2]], [0, 0], [1, True], [2, 1.0], {0: 1},
            {0, 1}, Odd(), Odd, len, Fraction(1, 2), Paper("chart"), Denial("no"), Picture(SQUARE),
            Album([Picture(SQUARE)]), iter([]), object()]


def no_integers():
    """Values that are no integers."""
    return [value for value in odd_values() if not isinstance(value, int) or isinstance(value, bool)]


def no_lists():
    """Values that are no lists and no tuples."""
    return [value for value in odd_values() if not isinstance(value, (list, tuple))]


class Case(unittest.TestCase):

    def fails(self, error, fields, call, *args, **more):
        """The call raises just this error, its fields these values, the very ones for what is no integer."""
        with self.assertRaises(SeenError) as caught:
            call(*args, **more)
        raised = caught.exception
        self.assertIs(type(raised), error, (vars(raised), args))
        self.assertEqual(len(vars(raised)), len(fields))
        for mine, its in zip(vars(raised).values(), fields):
            self.assertIs(type(mine), type(its), (vars(raised), fields, args))
            if isinstance(its, (int, str)):
                self.assertEqual(mine, its, args)
            else:
                self.assertIs(mine, its)

    def fails_for(self, values, error, fields, call):
        """The call raises so for each of the values."""
        for value in values:
            with self.subTest(value=value):
                self.fails(error, fields, call, value)

    def is_no_list_of(self, good, wrong, error, fields, call):
        """The call takes the good list, as a tuple too, but not with one wrong item at any place."""
        call(good)
        call(tuple(good))
        for at in range(len(good)):
            for value in wrong:
                with self.subTest(at=at, value=value):
                    self.fails(error, fields, call, list(good[:at]) + [value] + list(good[at + 1:]))

    def takes_short(self, call, *args):
        """The call comes back in a short time; what it returns."""
        start = time.perf_counter()
        told = call(*args)
        self.assertLess(time.perf_counter() - start, 5)
        return told

    def reads(self, read, text, patterns):
        """The text is read, and is the text of what it tells, or raises BadText with the right item."""
        wrong = item_amiss(text.split(" "), patterns)
        if wrong is None:
            self.assertEqual(str(read(text)), text)
        else:
            self.fails(BadText, [0, wrong], read, text)

    def reads_bent(self, read, text, patterns, more=()):
        """The text is read back; bent at any item it raises BadText with the right item, if it is no text now."""
        self.assertIsNone(item_amiss(text.split(" "), patterns))
        self.reads(read, text, patterns)
        for bent in bent_items(text.split(" "), more):
            self.reads(read, " ".join(bent), patterns)


def bent_items(items, more=()):
    """The items with one changed, put in, left out, told twice, two exchanged, and the end cut off."""
    bends = list(more) + ["", "0", "-1", "-7", "-0", "00", "01", "+1", "-", "--1", "/", ";", ":", "1.0", "1_0", "x", "//", "\n", "1\n",
             "\u0661", "\u00b2", "1e3", "0x1", "1" * 60, "1" * 61, "-" + "1" * 61, "1" * 5000,
             "1000000000", "-1000000000", "1000000001", "-1000000001"]
    for at in range(len(items)):
        yield items[:at] + items[at + 1:]
        yield items[:at]
        yield items[:at] + [items[at]] + items[at:]
        for other in {at - 1, at - 2, at - 3, 0} & set(range(at)):
            bent = list(items)
            bent[at], bent[other] = items[other], items[at]
            yield bent
        for bend in bends:
            yield items[:at] + [bend] + items[at + 1:]
            yield items[:at] + [bend] + items[at:]
    for bend in bends:
        yield items + [bend]


def fits_item(item, kind):
    """Whether an item is of this kind; what is none of the kinds stands for itself.

    "n" is a number as bounded as places are, "i" any number, "u" one from 0 on, "p" a pin from 0 to 6, "w" the word of a
    saying, "a" a name; a tuple is one of its items.
    """
    if isinstance(kind, tuple):
        return item in kind
    if kind == "a":
        return re.fullmatch("[a-z][a-z0-9]{0,11}", item) is not None
    if kind == "u":
        return re.fullmatch("0|[1-9][0-9]{0,59}", item) is not None
    if kind == "p":
        return item in tuple("0123456")
    if kind == "w":
        return item in ("above", "below", "just")
    if kind not in ("n", "i"):
        return item == kind
    return re.fullmatch("0|-?[1-9][0-9]{0,59}", item) is not None and (kind == "i" or abs(int(item)) <= LIMIT)


def item_amiss(items, patterns):
    """The index of the first item that cannot stand, or the number of items if one is missing, or None.

    A pattern is a pair of the kinds of all items that there can be, and of how many there may be.
    """
    furthest = 0
    for kinds, ends in patterns:
        many = 0
        while many < min(len(items), len(kinds)) and fits_item(items[many], kinds[many]):
            many += 1
        if many == len(items) and many in ends:
            return None
        furthest = max(furthest, many)
    return furthest


def picture_patterns():
    """A picture: 4 to 7 places."""
    return [(["n", "n", "/"] * 6 + ["n", "n"], [11, 14, 17, 20])]


def album_patterns():
    """An album: 1 to 8 pictures, all of 4 to 7 pins."""
    found = []
    for pins in range(4, 8):
        kinds = (["n", "n", "/"] * (pins - 1) + ["n", "n", ";"]) * 8
        found.append((kinds[:-1], [3 * pins * many - 1 for many in range(1, 9)]))
    return found


def tray_patterns():
    """A tray: 1 to 8 rows, all of 3 to 7 pins."""
    found = []
    for pins in range(3, 8):
        kinds = (["n"] * pins + ["/"]) * 8
        found.append((kinds[:-1], [(pins + 1) * many - 1 for many in range(1, 9)]))
    return found


def saying_patterns():
    """A saying: 1 to 12 terms, a word, a number."""
    term = ["i", "p", "p", "p", "p"]
    return [((term + ["+"]) * many + term + ["w", "i"], [6 * many + 7]) for many in range(12)]


def plain_determinant(rows):
    """By the sum of all products."""
    many = len(rows)
    total = 0
    for order in itertools.permutations(range(many)):
        turns = sum(order[a] > order[b] for a in range(many) for b in range(a + 1, many))
        product = (-1) ** turns
        for row, column in zip(rows, order):
            product *= row[column]
        total += product
    return total


def plain_rank(rows):
    """By steps with fractions."""
    rows = [[Fraction(number) for number in row] for row in rows]
    many = 0
    for column in range(len(rows[0]) if rows else 0):
        heads = [row for row in rows[many:] if row[column]]
        if heads:
            head = heads[0]
            rows.remove(head)
            rows.insert(many, head)
            for at in range(many + 1, len(rows)):
                part = rows[at][column] / head[column]
                rows[at] = [a - part * b for a, b in zip(rows[at], head)]
            many += 1
    return many


def ratio(number, by=1):
    """A ratio in lowest terms, as the program tells it."""
    told = Fraction(number, by)
    return (told.numerator, told.denominator)


def fraction(told):
    """The number of a ratio that the program told, in lowest terms."""
    number, by = told
    assert by > 0 and gcd(number, by) == 1
    return Fraction(number, by)


def primitive_of(values):
    """By dividing by what divides all."""
    divisor = gcd(*values)
    if divisor == 0:
        return tuple(values)
    head = [value for value in values if value][0]
    sign = 1 if head > 0 else -1
    return tuple(sign * value // divisor for value in values)


def chance(seed):
    """Numbers that look random and are always the same."""
    return random.Random(seed)


def is_strictly(value, its):
    """Whether both are equal with all kinds, also those within tuples."""
    if type(value) is not type(its):
        return False
    if isinstance(value, tuple):
        return len(value) == len(its) and all(map(is_strictly, value, its))
    return value == its


def bent_values(value):
    """Values that are like this one, but for one thing anywhere in it."""
    for other in odd_values():
        if not is_strictly(fixed(other), value):
            yield other
    if isinstance(value, tuple):
        for at, item in enumerate(value):
            yield value[:at] + value[at + 1:]
            yield value[:at] + (item,) + value[at:]
            for bent in bent_values(item):
                yield value[:at] + (bent,) + value[at + 1:]
        yield value + (0,)
        yield value + (None,)
        yield value[::-1]
    elif isinstance(value, int) and not isinstance(value, bool):
        yield from (number for number in (value + 1, value - 1, -value, 2 * value) if number != value)
        yield from (float(value), str(value), (value,), [value], Fraction(value))
        if value in (0, 1):
            yield bool(value)


def bent_parts(parts):
    """The parts of a paper with one thing changed."""
    for at, part in enumerate(parts):
        for bent in bent_values(part):
            if not is_strictly(fixed(bent), part):
                yield parts[:at] + (bent,) + parts[at + 1:]


def fakes(paper):
    """Papers with the same word and parts, but not made by calling the same class."""
    class Under(type(paper)):
        pass

    class Other(Paper):
        pass
    twin = type(type(paper).__name__, (Denial if isinstance(paper, Denial) else Paper,), {})
    made = [Paper(paper.word, *paper.parts), Denial(paper.word, *paper.parts), Under(*paper.parts),
            Other("other", *paper.parts), twin(paper.word, *paper.parts), type(paper).__new__(type(paper))]
    return made + [paper.parts, paper.word, type(paper), str(paper)]


def one_is(paper, right):
    """Whether the paper is of the class of the right one, with strictly its parts."""
    return type(paper) is type(right) and is_strictly(paper.parts, right.parts)


class ShowsCase(Case):
    """For functions `shows_..`, called with a value alone."""

    def shows(self, call, paper):
        """The paper is right, with lists for tuples too, and no fake of it is."""
        self.assertIs(call(paper), True, (paper.word, paper.parts))
        self.assertIs(call(type(paper)(*[with_lists(part) for part in paper.parts])), True)
        for fake in fakes(paper):
            self.assertIs(call(fake), False)

    def shows_not(self, call, paper):
        self.assertIs(call(paper), False, (paper.word, paper.parts))

    def shows_no_bent(self, call, paper, is_right=None):
        """The paper is right; with one thing changed it is not, but where is_right of its parts tells so."""
        self.shows(call, paper)
        for parts in bent_parts(paper.parts):
            bent = type(paper)(*parts)
            right = is_right is not None and is_right(bent.parts)
            self.assertIs(call(bent), right, (paper.word, parts))

    def shows_nothing_else(self, call, classes, right=()):
        """No odd value, and no paper of odd parts but those told, is right or raises anything."""
        for value in odd_values():
            self.assertIs(call(value), False, value)
            for made, many in classes:
                if many:
                    paper = made(*[value] * many)
                    self.assertIs(call(paper), any(one_is(paper, one) for one in right), (made, value))


def with_lists(value):
    """Lists in the place of tuples."""
    return [with_lists(item) for item in value] if isinstance(value, tuple) else value


def are_plain(value):
    """Whether there are integers alone in the tuples within."""
    if isinstance(value, tuple):
        return all(are_plain(item) for item in value)
    return type(value) is int


def is_plain_ratio(value):
    """Whether it is a ratio, told as a tuple."""
    return (isinstance(value, tuple) and len(value) == 2 and all(type(item) is int for item in value)
            and value[1] > 0 and gcd(*value) == 1)


def is_plain_row(value, size):
    """Whether it is a tuple of so many integers."""
    return isinstance(value, tuple) and len(value) == size and all(type(item) is int for item in value)
