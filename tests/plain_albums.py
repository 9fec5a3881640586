"""Slow and plain: what the document tells of albums, reckoned with fractions, lot by lot, and albums to try it on."""

import itertools
from fractions import Fraction
from math import lcm

from farseen.albums import Album
from farseen.axes import Apart, Axis, SamePlane, Thin, Unalike, Unequal
from farseen.charts import Chart
from farseen.pictures import Picture
from tests.helpers import chance, plain_determinant, plain_rank, primitive_of
from tests.test_bodies import some_bodies


def remembered(call):
    """The same function, which reckons once for equal pictures, or lists of them."""
    told = {}

    def remembering(*args):
        key = tuple(arg.places if isinstance(arg, Picture) else tuple(one.places for one in arg) for arg in args)
        if key not in told:
            told[key] = call(*args)
        return told[key]
    return remembering


def rows_of(picture):
    """What the steps from pin 0 go across, and up."""
    first = picture.places[0]
    return [[place[k] - first[k] for place in picture.places[1:]] for k in range(2)]


def nothing_made(rows):
    """All ways, but for sums of them, in which multiples of the rows add up to 0: by fractions."""
    many, width = len(rows), len(rows[0])
    table = [[Fraction(row[at]) for row in rows] for at in range(width)]
    heads, done = [], 0
    for at in range(many):
        pick = next((k for k in range(done, width) if table[k][at]), None)
        if pick is None:
            continue
        table[done], table[pick] = table[pick], table[done]
        table[done] = [number / table[done][at] for number in table[done]]
        for k in range(width):
            if k != done and table[k][at]:
                table[k] = [a - table[k][at] * b for a, b in zip(table[k], table[done])]
        heads.append(at)
        done += 1
    found = []
    for at in range(many):
        if at not in heads:
            way = [Fraction(0)] * many
            way[at] = Fraction(1)
            for k, head in enumerate(heads):
                way[head] = -table[k][at]
            found.append(way)
    return found


def whole(values):
    """The primitive integers of which these fractions are a multiple."""
    by = 1
    for value in values:
        by *= value.denominator
    return primitive_of([int(value * by) for value in values])


def gram(rows):
    size = len(rows[0])
    return [[sum(row[a] * row[b] for row in rows) for b in range(size)] for a in range(size)]


@remembered
def is_thin(picture):
    return plain_rank(rows_of(picture)) < 2


def direction_sum(picture, direction):
    rows = rows_of(picture)
    return [direction[0] * a + direction[1] * b for a, b in zip(*rows)]


def across_of(picture, direction):
    return direction_sum(picture, (-direction[1], direction[0]))


def square_of(direction):
    return direction[0] ** 2 + direction[1] ** 2


@remembered
def both_directions(one, other):
    """The one pair of directions, rank three, that makes one row in both."""
    rows = rows_of(one) + [[-number for number in row] for row in rows_of(other)]
    (way,) = nothing_made(rows)
    m, n, s, t = whole(way)
    return (m, n), (s, t)


@remembered
def plain_axis(one, other):
    """The class of the paper that `axis` tells, and the directions if there are."""
    if is_thin(one) or is_thin(other):
        return Thin, None
    many = plain_rank(rows_of(one) + rows_of(other))
    if many == 4:
        return Apart, None
    if many == 2:
        return (SamePlane if gram(rows_of(one)) == gram(rows_of(other)) else Unalike), None
    mine, its = both_directions(one, other)
    return (Axis if square_of(mine) == square_of(its) else Unequal), (mine, its)


def chart_rows_at(one, other, c):
    """The products of the steps from pin 0 at c, fractions."""
    mine, its = both_directions(one, other)
    a, p, q = direction_sum(one, mine), across_of(one, mine), across_of(other, its)
    size = len(a)
    return [[(a[k] * a[i] + (p[k] * p[i] + q[k] * q[i] - c * (p[k] * q[i] + q[k] * p[i])) / (1 - c * c)) / square_of(mine)
             for i in range(size)] for k in range(size)]


def chart_of(rows):
    """The Chart of these fractions."""
    by = 1
    for row in rows:
        for number in row:
            by *= number.denominator
    return Chart([[int(number * by) for number in row] for row in rows], by)


def corner_axes(pictures):
    """The directions of the axes of first and second, first and third, second and third."""
    return [both_directions(pictures[a], pictures[b]) for a, b in ((0, 1), (0, 2), (1, 2))]


def corner_table(axes):
    """The products of the axes, each pair in the picture that both have."""
    def product(one, other):
        return one[0] * other[0] + one[1] * other[1]
    (a, b), (c, d), (e, f) = axes
    return [[product(a, a), product(a, c), product(b, e)], [product(a, c), product(c, c), product(d, f)],
            [product(b, e), product(d, f), product(e, e)]]


@remembered
def is_corner(pictures):
    alongs = [direction_sum(pictures[0], axes[0]) for axes in corner_axes(pictures)[:2]]
    return plain_rank(alongs) == 2


@remembered
def hinge_ends(pictures):
    """The three directions that make one row: six integers that are primitive."""
    first, second, third = [rows_of(picture) for picture in pictures]
    size = len(first[0])
    negative = [[[-number for number in row] for row in rows] for rows in (second, third)]
    none = [0] * size
    table = [row + row for row in first] + [row + none for row in negative[0]] + [none + row for row in negative[1]]
    (way,) = nothing_made(table)
    six = whole(way)
    return six[:2], six[2:4], six[4:]


@remembered
def hinge_ways(pictures):
    """The x and y of a hinge, fractions, or None."""
    rows = [across_of(picture, end) for picture, end in zip(pictures, hinge_ends(pictures))]
    made = nothing_made(rows)
    if not made:
        return None
    x, y, z = made[0]
    return -x / z, -y / z


def make_triangle(x, y):
    sides = [1, abs(x), abs(y)]
    return 2 * max(sides) < sum(sides)


@remembered
def three_chart(pictures):
    """The products of steps that three pictures of unlike planes tell, fractions, or None if no body has them."""
    if not is_corner(pictures):
        told = hinge_ways(pictures)
        if told is None or not make_triangle(*told):
            return None
        x, y = told
        return chart_rows_at(pictures[0], pictures[1], (1 - x * x - y * y) / (2 * x * y))
    axes = corner_axes(pictures)
    table = corner_table(axes)
    if plain_determinant(table) <= 0:
        return None
    alongs = [direction_sum(pictures[0], axes[0][0]), direction_sum(pictures[0], axes[1][0]),
              direction_sum(pictures[1], axes[2][0])]
    size = len(alongs[0])

    def product(a, b):
        wide = [row + [alongs[k][b]] for k, row in enumerate(table)] + [[along[a] for along in alongs] + [0]]
        return Fraction(-plain_determinant(wide), plain_determinant(table))
    return [[product(a, b) for b in range(size)] for a in range(size)]


def leaves_rest(rows, picture):
    """Whether the products, less those of the picture, are a row by itself, times a ratio above 0."""
    taken = gram(rows_of(picture))
    left = [[mine - its for mine, its in zip(row, other)] for row, other in zip(rows, taken)]
    if plain_rank(left) != 1:
        return False
    return all(left[k][k] >= 0 for k in range(len(left)))


def lot_is_amiss(album, lot):
    """Whether a lot is none's by a reason of its own, no shorter lot of it being none's."""
    pictures = [album.pictures[number] for number in lot]
    if len(lot) == 1:
        return is_thin(pictures[0])
    papers = [plain_axis(*two)[0] for two in itertools.combinations(pictures, 2)]
    if len(lot) == 2:
        return papers[0] not in (Axis, SamePlane)
    if SamePlane in papers:
        return False
    chart = three_chart(pictures[:3])
    if len(lot) == 3:
        return chart is None
    return not leaves_rest(chart, pictures[3])


def plain_quarrels(album):
    """All lots, shorter ones first, that have a reason."""
    found = []
    for size in range(1, 5):
        for lot in itertools.combinations(range(len(album)), size):
            if not any(set(its) <= set(lot) for its in found) and lot_is_amiss(album, lot):
                found.append(lot)
    return tuple(found)


def plain_planes(album):
    """The lots of kin pictures."""
    found = {}
    for at, picture in enumerate(album.pictures):
        found.setdefault(str(gram(rows_of(picture))), []).append(at)
    return [tuple(lot) for lot in found.values()]


def plain_kind(album):
    if plain_quarrels(album):
        return "none"
    return ["free", "stretch", "one"][min(len(plain_planes(album)), 3) - 1]


def plain_chart(album):
    """The one chart of an album of kind one."""
    lots = plain_planes(album)
    return chart_of(three_chart([album.pictures[lot[0]] for lot in lots[:3]]))


def moved_by_one(dice, album):
    """With one number of a place moved by one."""
    at = dice.randrange(len(album))
    places = [list(place) for place in album.pictures[at].places]
    places[dice.randrange(len(places))][dice.randrange(2)] += dice.choice((1, -1))
    pictures = list(album.pictures)
    pictures[at] = Picture(places)
    return Album(pictures)


def kin_of(dice, picture):
    """A picture that is kin: mirrored perhaps, turned by quarters, shifted."""
    if dice.randrange(2):
        picture = picture.mirrored()
    for _ in range(dice.randrange(4)):
        picture = picture.turned()
    return picture.shifted(dice.randrange(-5, 6), dice.randrange(-5, 6))


def some_four(dice, most, about_one_axis):
    four = (0, 0, 0, 0)
    while not any(four):
        four = [dice.randrange(-most, most + 1) for _ in range(4)]
        if about_one_axis:
            four[2] = four[3] = 0
    return tuple(four)


def body_albums(seed, many, most_pictures=8):
    """Albums of bodies that are turned by fours, some about one axis alone, some with kin pictures.

    Told with the body, and how many times as great it is in the album.
    """
    dice = chance(seed)
    for at, body in enumerate(some_bodies(seed + 1, many, 4)):
        fours = [some_four(dice, 2, at % 3 == 0) for _ in range(dice.randrange(1, most_pictures + 1))]
        album = body.album(fours)
        scale = lcm(*[sum(number * number for number in four) for four in fours])
        if at % 2:
            album = Album([kin_of(dice, picture) for picture in album.pictures])
        yield body, scale, album


def upright_albums(seed, many):
    """Albums of pictures (along, row): all have one axis; the rows small sums of two rows, or of three."""
    dice = chance(seed)
    for _ in range(many):
        pins = dice.randrange(4, 8)
        along, one, other, third = [[dice.randrange(-3, 4) for _ in range(pins)] for _ in range(4)]
        pictures = []
        for _ in range(dice.randrange(2, 7)):
            x, y, z = dice.randrange(-2, 3), dice.randrange(-2, 3), dice.choice((0, 0, 0, 1))
            row = [x * a + y * b + z * c for a, b, c in zip(one, other, third)]
            pictures.append(kin_of(dice, Picture(list(zip(along, row)))))
        yield Album(pictures)


def mixed_albums(seed, many):
    """Albums of all kinds: of bodies, of bodies but for one number, of two bodies, upright ones, of chance."""
    dice = chance(seed)
    for _, _, album in body_albums(seed + 10, many, 5):
        yield album
        yield moved_by_one(dice, album)
        if len(album) > 1:
            at = dice.randrange(len(album))
            twice = [picture.times(1 + (k == at)) for k, picture in enumerate(album.pictures)]
            yield Album(twice)
    for album in upright_albums(seed + 20, many):
        yield album
    for _ in range(many // 2):
        pins = dice.randrange(4, 6)
        yield Album([Picture([(dice.randrange(-1, 2), dice.randrange(-1, 2)) for _ in range(pins)])
                     for _ in range(dice.randrange(1, 5))])


def close_albums(seed, many):
    """Upright albums whose rows are about equally long, so that threes have charts, and fours unlike ones."""
    dice = chance(seed)
    ways = [(10, 0), (0, 10), (9, 8), (8, 9), (11, 7), (7, 12), (10, 9), (9, -10), (6, -8), (10, 10)]
    for _ in range(many):
        pins = dice.randrange(4, 6)
        along, one, other = [[dice.randrange(-3, 4) for _ in range(pins)] for _ in range(3)]
        pictures = [Picture([(c, x * a + y * b) for a, b, c in zip(one, other, along)])
                    for x, y in dice.sample(ways, dice.randrange(3, 7))]
        yield Album(pictures)


def paired_albums(seed, many):
    """Albums of four pins and of small numbers in which each two pictures have an axis with equal squares."""
    dice = chance(seed)
    pictures = [Picture([(0, 0)] + [(dice.randrange(-2, 3), dice.randrange(-2, 3)) for _ in range(3)]) for _ in range(90)]
    fit = {(a, b) for a, b in itertools.combinations(range(90), 2) if plain_axis(pictures[a], pictures[b])[0] is Axis}
    found = 0
    for a, b in sorted(fit):
        lot = [a, b]
        for c in range(b + 1, 90):
            if all((its, c) in fit for its in lot):
                lot.append(c)
        if len(lot) > 3 and found < many:
            found += 1
            yield Album([pictures[number] for number in lot[:8]])
