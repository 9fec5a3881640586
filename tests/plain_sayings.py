"""Slow and plain: what of an album is sure, never, open, reckoned with fractions, and sayings to try it on."""

import itertools
from fractions import Fraction

from farseen.sayings import Saying
from tests.helpers import chance, plain_rank
from tests.plain_albums import chart_rows_at, is_thin, leaves_rest, nothing_made, plain_chart, plain_kind, plain_planes, rows_of
from tests.test_sayings import WORDS, plain_sum, some_terms, sum_in_chart
from tests.test_signs import plain_signs


def rows_of_chart(chart):
    return [[Fraction(number, chart.by) for number in row] for row in chart.rows]


def sum_of(saying, chart):
    """What the terms add up to in a Chart, a fraction."""
    return sum_in_chart(rows_of_chart(chart), saying.terms)


def told_by(difference):
    """Whether a sum that is so much more than the number is below, just, above it."""
    return difference < 0, difference == 0, difference > 0


def row_along(album, saying, planes):
    """The x, y, z of a stretch, fractions: from its sums at three numbers c."""
    one, other = [album.pictures[lot[0]] for lot in planes]
    half = Fraction(1, 2)
    at_0, at_half, at_less = [(sum_in_chart(chart_rows_at(one, other, c), saying.terms) - saying.number) * (1 - c * c)
                              for c in (Fraction(0), half, -half)]
    return at_0, at_half - at_less, 2 * (at_half + at_less) - 4 * at_0


def form_of(terms, pins):
    """The form, fractions: what the terms add up to for rows with one 1 or two."""
    size = pins - 1

    def comes(row):
        return plain_sum([[0] + row], terms)
    units = [[int(k == at) for k in range(size)] for at in range(size)]
    both = [[comes([a + b for a, b in zip(one, other)]) for other in units] for one in units]
    return [[Fraction(both[a][b] - comes(units[a]) - comes(units[b]), 2) for b in range(size)] for a in range(size)]


def inertia(rows):
    """How many squares above 0, and below 0, a form is the sum of: by taking squares off one by one."""
    rows = [list(row) for row in rows]
    size, above, below = len(rows), 0, 0
    while any(any(row) for row in rows):
        at = next((k for k in range(size) if rows[k][k]), None)
        if at is None:
            # No square: add one direction to another one that it has a product with.
            one, other = next((a, b) for a, b in itertools.product(range(size), repeat=2) if rows[a][b])
            for row in rows:
                row[one] += row[other]
            rows[one] = [a + b for a, b in zip(rows[one], rows[other])]
            continue
        head = rows[at][at]
        above, below = above + (head > 0), below + (head < 0)
        line = list(rows[at])
        rows = [[rows[a][b] - line[a] * line[b] / head for b in range(size)] for a in range(size)]
    return above, below


def can_be_freely(saying, picture):
    """Whether the sum can be below, just, above its number, whatever the depths that are not in the plane of the picture."""
    form = form_of(saying.terms, picture.pins)
    rows = rows_of(picture)
    gap = saying.number - plain_sum([[0] + row for row in rows], saying.terms)
    above, below = inertia(form)
    if above and below:
        return True, True, True
    nothing = nothing_made(form) if any(map(any, form)) else [[int(k == at) for k in range(len(form))] for at in range(len(form))]
    reaches = plain_rank(rows + nothing) > 2
    return (bool(below) or gap > 0, gap == 0 and reaches or bool(below) and gap < 0 or bool(above) and gap > 0, bool(above) or gap < 0)


def plain_can_be(album, saying):
    """Whether the sum can be below, just, above its number in an album that is not none's."""
    kind, planes = plain_kind(album), plain_planes(album)
    if kind == "one":
        return told_by(sum_of(saying, plain_chart(album)) - saying.number)
    if kind == "stretch":
        return plain_signs(row_along(album, saying, planes))
    return can_be_freely(saying, album.pictures[0])


def plain_word(album, saying):
    can_be = plain_can_be(album, saying)
    keeps = can_be[("below", "just", "above").index(saying.word)]
    if not keeps:
        return "never"
    return "sure" if sum(can_be) == 1 else "open"


def is_chart_of(album, chart):
    """Whether a body that has the album has this Chart: it leaves what depths make, for each picture."""
    if chart.pins != album.pins or plain_rank(chart.rows) != 3:
        return False
    return all(not is_thin(picture) and leaves_rest(rows_of_chart(chart), picture) for picture in album.pictures)


def is_open(album, saying, one, other):
    """Whether these charts show the saying to be open, by the document."""
    def difference(chart):
        return sum_of(saying, chart) - saying.number

    def keeps(chart):
        return told_by(difference(chart))[("below", "just", "above").index(saying.word)]
    if not all(is_chart_of(album, chart) for chart in one + (other,)) or keeps(other):
        return False
    if len(one) == 1:
        return keeps(one[0])
    return len(one) == 2 and saying.word == "just" and difference(one[0]) < 0 < difference(one[1])


def are_squares_of(saying, pins, terms):
    """Whether the rows by themselves, each times its ratio above 0, make the form, or the form times -1."""
    size = pins - 1
    made = [[sum((Fraction(*ratio) * row[a] * row[b] for ratio, row in terms), Fraction(0)) for b in range(size)] for a in range(size)]
    form = form_of(saying.terms, pins)
    if any(Fraction(*ratio) <= 0 or not any(row) for ratio, row in terms):
        return False
    return made in (form, [[-number for number in row] for row in form])


def squares_of_steps(dice, pins):
    """Terms that are squares alone, above 0 or below: forms that are never below 0, or never above."""
    sign = dice.choice((1, -1))
    steps = [tuple(dice.randrange(pins) for _ in range(2)) for _ in range(dice.randrange(1, 4))]
    return [(sign * dice.randrange(1, 3), step, step) for step in steps]


def sayings_on(dice, album, many, rows=None):
    """Sayings of the pins of an album, the number often just what the rows, or those of picture 0, make."""
    if rows is None:
        rows = [[0] + row for row in rows_of(album.pictures[0])]
    for at in range(many):
        terms = squares_of_steps(dice, album.pins) if at % 3 == 0 else some_terms(dice, album.pins, 3)
        number = plain_sum(rows, terms) + dice.choice((0, 0, 1, -1, -20, 20))
        yield Saying(terms, dice.choice(WORDS), number)


def edge_sayings(album):
    """Forms that are all 0, single squares and products, at numbers where they turn."""
    for word in WORDS:
        for number in (-1, 0, 1):
            yield Saying([(0, (0, 1), (1, 2))], word, number)
            yield Saying([(1, (0, 1), (0, 1)), (-1, (1, 0), (1, 0))], word, number)
        for step in itertools.combinations(range(album.pins), 2):
            taken = plain_sum([[0] + row for row in rows_of(album.pictures[0])], [(1, step, step)])
            for number in (taken - 1, taken, taken + 1):
                yield Saying([(1, step, step)], word, number)
                yield Saying([(-1, step, step)], word, -number)


def body_sayings(seed, albums):
    """Sayings on albums of bodies, with the number just what the body makes, or next to it."""
    dice = chance(seed)
    for body, scale, album in albums:
        places = [[scale * number for number in row] for row in zip(*body.places)]
        for saying in sayings_on(dice, album, 4, places):
            yield body, scale, album, saying


def plain_enough(album, sayings):
    """The first lot by which each saying has the word of all, trying lot by lot."""
    words = [plain_word(album, saying) for saying in sayings]
    for size in range(1, len(album) + 1):
        for lot in itertools.combinations(range(len(album)), size):
            if [plain_word(album.picked(lot), saying) for saying in sayings] == words:
                return lot
    return None
