"""Slow and plain: what albums tell if each picture may be enlarged, reckoned with fractions, and albums to try it on."""

import itertools
from fractions import Fraction
from math import isqrt

from farseen.albums import Album
from farseen.axes import Apart, Thin
from farseen.pictures import Picture
from farseen.scales import Scale, Uneven
from tests.helpers import chance, plain_determinant, plain_rank
from tests.plain_albums import (body_albums, both_directions, chart_of, chart_rows_at, close_albums, corner_axes, direction_sum, gram, hinge_ways, is_corner,
                                is_thin, kin_of, leaves_rest, make_triangle, mixed_albums, paired_albums, remembered, rows_of, square_of,
                                upright_albums)


@remembered
def plain_scale(one, other):
    """The class of the paper that `scale` tells, and the scale, a fraction, or the first pins."""
    if is_thin(one) or is_thin(other):
        return Thin, None
    many = plain_rank(rows_of(one) + rows_of(other))
    if many == 4:
        return Apart, None
    if many == 3:
        mine, its = both_directions(one, other)
        return Scale, Fraction(square_of(mine), square_of(its))
    mine, its = gram(rows_of(one)), gram(rows_of(other))
    size = range(len(mine))
    for a, b, d, e in itertools.product(size, repeat=4):
        if mine[a][b] * its[d][e] != mine[d][e] * its[a][b]:
            return Uneven, (a + 1, b + 1, d + 1, e + 1)
    return Scale, next(Fraction(its[a][a], mine[a][a]) for a in size if mine[a][a])


@remembered
def plain_ring(pictures):
    """The scale of first and second, times that of second and third, divided by that of first and third."""
    first, second, third = pictures
    return plain_scale(first, second)[1] * plain_scale(second, third)[1] / plain_scale(first, third)[1]


@remembered
def sized_table(pictures):
    """The products of the axes of a corner at the size of the first picture, fractions."""
    def product(one, other):
        return one[0] * other[0] + one[1] * other[1]
    (a, b), (c, d), (e, f) = corner_axes(pictures)
    second, third = [plain_scale(pictures[0], picture)[1] for picture in pictures[1:]]
    return [[product(a, a), product(a, c), second * product(b, e)], [product(a, c), product(c, c), third * product(d, f)],
            [second * product(b, e), third * product(d, f), second * product(e, e)]]


@remembered
def sized_three_chart(pictures):
    """The products of steps that three pictures of unlike planes tell at the size of the first, or None."""
    if not is_corner(pictures):
        told = hinge_ways(pictures)
        if told is None or not make_triangle(*told):
            return None
        x, y = told
        return chart_rows_at(pictures[0], pictures[1], (1 - x * x - y * y) / (2 * x * y))
    if plain_ring(pictures) != 1:
        return None
    table, axes = sized_table(pictures), corner_axes(pictures)
    if plain_determinant(table) <= 0:
        return None
    alongs = [direction_sum(pictures[0], axes[0][0]), direction_sum(pictures[0], axes[1][0]), direction_sum(pictures[1], axes[2][0])]
    size = len(alongs[0])

    def product(a, b):
        wide = [row + [alongs[k][b]] for k, row in enumerate(table)] + [[along[a] for along in alongs] + [0]]
        return Fraction(-plain_determinant(wide), plain_determinant(table))
    return [[product(a, b) for b in range(size)] for a in range(size)]


def times_all(rows, many):
    return [[many * number for number in row] for row in rows]


def in_one_plane(one, other):
    return plain_rank(rows_of(one) + rows_of(other)) == 2


def sized_lot_is_amiss(album, lot):
    """Whether a lot is none's with sizes by a reason of its own, no shorter lot of it being so."""
    pictures = [album.pictures[number] for number in lot]
    if len(lot) == 1:
        return is_thin(pictures[0])
    if len(lot) == 2:
        return plain_scale(*pictures)[0] is not Scale
    if any(in_one_plane(*two) for two in itertools.combinations(pictures, 2)):
        return False
    chart = sized_three_chart(pictures[:3])
    if len(lot) == 3:
        return chart is None
    return not leaves_rest(times_all(chart, plain_scale(pictures[0], pictures[3])[1]), pictures[3])


def plain_sized_quarrels(album):
    """All lots, shorter ones first, that have a reason with sizes."""
    found = []
    for size in range(1, 5):
        for lot in itertools.combinations(range(len(album)), size):
            if not any(set(its) <= set(lot) for its in found) and sized_lot_is_amiss(album, lot):
                found.append(lot)
    return tuple(found)


def sized_planes(album):
    """The lots of pictures of one plane, of an album that is not none's with sizes."""
    lots = []
    for at, picture in enumerate(album.pictures):
        for lot in lots:
            if in_one_plane(album.pictures[lot[0]], picture):
                lot.append(at)
                break
        else:
            lots.append([at])
    return lots


def sized_squares(album):
    """The squares of the sizes, ratios."""
    told = [plain_scale(album.pictures[0], picture)[1] for picture in album.pictures]
    return tuple((square.numerator, square.denominator) for square in told)


def sized_chart(album):
    """The one chart at the size of picture 0, of three planes or more."""
    return chart_of(sized_three_chart([album.pictures[lot[0]] for lot in sized_planes(album)[:3]]))


def enlarged_by(dice, album, with_turns=True):
    """Each picture so many times, and turned by two integers; told with the squares of all sizes."""
    pictures, squares = [], []
    for picture in album.pictures:
        many, x, y = dice.choice((1, 2, 3, -2, -5)), *((dice.randrange(-3, 4), dice.randrange(1, 4)) if with_turns else (1, 0))
        pictures.append(picture.times(many).turned(x, y))
        squares.append(many * many * (x * x + y * y))
    return Album(pictures), [Fraction(square, squares[0]) for square in squares]


def moved_a_place(dice, album):
    """One number of a place moved by one."""
    at = dice.randrange(len(album))
    places = [list(place) for place in album.pictures[at].places]
    places[dice.randrange(len(places))][dice.randrange(2)] += dice.choice((1, -1))
    return Album([Picture(places) if k == at else picture for k, picture in enumerate(album.pictures)])


def sized_albums(seed, many):
    """Albums of all kinds, pictures of which are enlarged, or not, or moved by one."""
    dice = chance(seed)
    for _, _, album in body_albums(seed + 1, many, 5):
        larger = enlarged_by(dice, album)[0]
        yield larger
        yield moved_a_place(dice, larger)
        yield Album(larger.pictures + (kin_of(dice, larger.pictures[0]).times(2),)) if len(larger) < 8 else larger
    for album in itertools.chain(upright_albums(seed + 2, many), close_albums(seed + 3, many), paired_albums(seed + 4, many)):
        yield enlarged_by(dice, album)[0]
        yield moved_a_place(dice, enlarged_by(dice, album)[0])
    for album in mixed_albums(seed + 5, many // 2):
        yield album
    for _ in range(many):
        yield Album([Picture([(dice.randrange(-1, 2), dice.randrange(-1, 2)) for _ in range(4)]) for _ in range(dice.randrange(2, 5))])


def is_square(number):
    return isqrt(number) ** 2 == number
