"""Trays told slowly and plainly, with fractions, and trays of many kinds to be told."""

import itertools
from fractions import Fraction
from math import lcm

from farseen.trays import Tray
from tests.helpers import chance, plain_rank


def ways(one, other, third):
    """x and y with which the third is x times the one and y times the other, or None."""
    size = len(one)
    a, b = next((a, b) for a, b in itertools.combinations(range(size), 2) if one[a] * other[b] != one[b] * other[a])
    by = one[a] * other[b] - one[b] * other[a]
    x = Fraction(third[a] * other[b] - third[b] * other[a], by)
    y = Fraction(one[a] * third[b] - one[b] * third[a], by)
    return (x, y) if all(x * one[k] + y * other[k] == third[k] for k in range(size)) else None


def are_multiples(one, other):
    return plain_rank([list(one), list(other)]) < 2


def are_kin(one, other):
    return list(one) in (list(other), [-number for number in other])


def unlike_rows(rows):
    """The numbers of the first rows of all lots of kin ones."""
    found = []
    for at, row in enumerate(rows):
        if not any(are_kin(row, rows[its]) for its in found):
            found.append(at)
    return found


def c_between(x, y):
    return (1 - x * x - y * y) / (2 * x * y)


def is_nones(rows):
    """Whether no pins have all these rows, all taken at once."""
    rows = [rows[at] for at in unlike_rows(rows)]
    if not all(any(row) for row in rows):
        return True
    if any(are_multiples(one, other) for one, other in itertools.combinations(rows, 2)):
        return True
    if len(rows) < 3:
        return False
    found = [ways(rows[0], rows[1], row) for row in rows[2:]]
    if None in found:
        return True
    c = c_between(*found[0])
    return not -1 < c < 1 or any(x * x + y * y + 2 * x * y * c != 1 for x, y in found)


def nones_lots(rows):
    """All lots of rows that are none's, ordered."""
    return [lot for many in range(1, len(rows) + 1) for lot in itertools.combinations(range(len(rows)), many)
            if is_nones([rows[at] for at in lot])]


def quarrels(rows):
    """Those that are none's while, with any one left out, they are not."""
    lots = nones_lots(rows)
    return tuple(lot for lot in lots if not any(lot[:k] + lot[k + 1:] in lots for k in range(len(lot)) if len(lot) > 1))


def point_at(c, slope):
    """x and y with x x + y y + 2 x y c = 1."""
    part = (2 - 2 * c * slope) / (1 + slope * slope - 2 * c * slope)
    return 1 - part, part * slope


def chart_rows(one, other, c):
    """The numbers of the chart at c."""
    size = range(len(one))
    return [[(one[a] * one[b] + other[a] * other[b] - c * (one[a] * other[b] + other[a] * one[b])) / (1 - c * c)
             for b in size] for a in size]


def told_rows(dice, size, c, many):
    """Two lots of rows, integers: of one chart at c; and each of another chart than this."""
    while True:
        one, other = [[dice.randrange(-3, 4) for _ in range(size)] for _ in range(2)]
        if not are_multiples(one, other):
            break
    found = [(Fraction(1), Fraction(0)), (Fraction(0), Fraction(1))]
    slopes = [Fraction(1), Fraction(2), Fraction(-1), Fraction(1, 2), Fraction(3)]
    found += [point_at(c, dice.choice(slopes)) for _ in range(many)]
    wrong = [point_at(dice.choice([Fraction(1, 4), Fraction(-2, 5)]), slope) for slope in slopes[1:2] + slopes[3:]]
    common = lcm(*[part.denominator for pair in found + wrong for part in pair])
    return [[[int(common * (x * a + y * b)) for a, b in zip(one, other)] for x, y in lot] for lot in (found, wrong)]


def some_trays(seed, many, most_rows=8):
    """Trays that are none's for all reasons, and such that are not, of all kinds."""
    dice = chance(seed)
    cosines = [Fraction(0), Fraction(1, 2), Fraction(-1, 2), Fraction(2, 3), Fraction(-3, 4), Fraction(1, 3)]
    for _ in range(many):
        size = dice.randrange(2, 7)
        good, wrong = told_rows(dice, size, dice.choice(cosines), dice.randrange(0, 4))
        rows = [list(dice.choice(good)) for _ in range(dice.randrange(1, most_rows + 1))]
        for at, row in enumerate(rows):
            if dice.random() < 0.3:
                rows[at] = [-number for number in row]
            chances = dice.random()
            if chances < 0.03:
                rows[at] = [0] * size
            elif chances < 0.06:
                rows[at] = [2 * number for number in row]
            elif chances < 0.1:
                rows[at] = [dice.randrange(-3, 4) for _ in range(size)]
            elif chances < 0.16:
                x, y = dice.choice([1, -1, 2]), dice.choice([1, -1, 2, 3])
                rows[at] = [x * a + y * b for a, b in zip(good[0], good[1])]
            elif chances < 0.24:
                rows[at] = list(dice.choice(wrong))
        start = dice.randrange(-5, 6)
        yield Tray([[start] + [start + number for number in row] for row in rows])
