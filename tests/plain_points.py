"""Slow and plain: pins made of other pins, told by the rows of an album alone, with fractions, and albums to try it on."""

import itertools
from fractions import Fraction

from farseen.albums import Album
from farseen.pictures import Picture
from tests.helpers import chance, plain_rank
from tests.plain_albums import body_albums, is_thin, rows_of


def solution(rows, rights):
    """One way to make the right sides, and whether it is the only one; None if there is none."""
    table = [[Fraction(number) for number in row] + [Fraction(right)] for row, right in zip(rows, rights)]
    width, heads = len(rows[0]), []
    for at in range(width):
        pick = next((k for k in range(len(heads), len(table)) if table[k][at]), None)
        if pick is None:
            continue
        done = len(heads)
        table[done], table[pick] = table[pick], table[done]
        table[done] = [number / table[done][at] for number in table[done]]
        for k in range(len(table)):
            if k != done and table[k][at]:
                table[k] = [a - table[k][at] * b for a, b in zip(table[k], table[done])]
        heads.append(at)
    if any(row[width] for row in table[len(heads):]):
        return None
    told = [Fraction(0)] * width
    for row, head in zip(table, heads):
        told[head] = row[width]
    return told, len(heads) == width


def wide_rows(album):
    """All rows of an album, with a 0 for pin 0."""
    return [[0] + row for picture in album.pictures for row in rows_of(picture)]


def is_spread(album):
    return plain_rank(wide_rows(album)) == 3 and not any(map(is_thin, album.pictures))


def steps_of(album, four):
    """What the steps from the first of four pins to the others go, row by row."""
    return [[row[pin] - row[four[0]] for pin in four[1:]] for row in wide_rows(album)]


def plain_mix(album, four, pin):
    """The three ratios as fractions, or None if the four are in a plane."""
    steps = steps_of(album, four)
    if plain_rank(steps) < 3:
        return None
    told, is_sole = solution(steps, [row[pin] - row[four[0]] for row in wide_rows(album)])
    assert is_sole
    return told


def plain_first_four(album):
    return next(lot for lot in itertools.combinations(range(album.pins), 4) if plain_rank(steps_of(album, lot)) == 3)


def weights_of(album, pins, pin):
    """Weights, 1 in all, with which pins make another one in each row; None if they do not."""
    if not pins:
        return None
    rows = [[1] * len(pins)] + [[row[its] for its in pins] for row in wide_rows(album)]
    told = solution(rows, [1] + [row[pin] for row in wide_rows(album)])
    return None if told is None else told[0]


def put_by(weights, places):
    return tuple(sum((weight * place[k] for weight, place in zip(weights, places)), Fraction(0)) for k in range(2))


def plain_foretold(album, places):
    """The word of the paper, and what it tells, places as fractions."""
    ahead = []
    for pin, place in enumerate(places):
        if place is not None:
            weights = weights_of(album, ahead, pin)
            if weights is not None and put_by(weights, [places[its] for its in ahead]) != tuple(place):
                return "amiss", pin
            ahead.append(pin)
    weights = [weights_of(album, ahead, pin) for pin in range(album.pins)]
    loose = tuple(pin for pin in range(album.pins) if weights[pin] is None)
    if loose:
        return "loose", loose
    return "foretold", tuple(put_by(its, [places[pin] for pin in ahead]) for its in weights)


def mix_equations(album, four, places, numbers):
    """What the mix of a pin must keep to be where these pictures saw it: rows of three, and right sides."""
    rows, rights = [], []
    for number in numbers:
        steps = steps_of(album.picked([number]), four)
        start = album.pictures[number].places[four[0]]
        rows += steps
        rights += [places[number][k] - start[k] for k in range(2)]
    return rows, rights


def plain_new_pin(album, places):
    """The word of the paper, and the mix or the first lot of pictures without a place."""
    four = plain_first_four(album)
    seen = [number for number, place in enumerate(places) if place is not None]
    if not seen:
        return "anywhere", None
    told = solution(*mix_equations(album, four, places, seen))
    if told is not None:
        return ("place" if told[1] else "line"), told[0]
    for size in (2, 3):
        for lot in itertools.combinations(seen, size):
            if solution(*mix_equations(album, four, places, lot)) is None:
                return "noplace", lot
    raise AssertionError("no lot of two or three")


def spread_albums(seed, many):
    """Spread albums: of bodies, and of any pictures whose rows are made of three rows."""
    dice = chance(seed)
    for _, _, album in body_albums(seed + 1, many):
        if is_spread(album):
            yield album
    found = 0
    while found < many:
        pins = dice.randrange(4, 8)
        rows = [[dice.randrange(-2, 3) for _ in range(pins)] for _ in range(3)]
        pictures = []
        for _ in range(dice.randrange(1, 5)):
            parts = [[dice.randrange(-2, 3) for _ in range(3)] for _ in range(2)]
            pictures.append(Picture([tuple(sum(part * row[pin] for part, row in zip(ways, rows)) for ways in parts) for pin in range(pins)]))
        if is_spread(Album(pictures)):
            found += 1
            yield Album(pictures)


def not_spread_albums():
    """Albums of one plane, with a thin picture, of rank four."""
    flat = Picture([(0, 0), (3, 0), (0, 3), (0, 0), (1, 1)])
    other = Picture([(0, 0), (2, 2), (-1, 2), (2, -1), (0, 0)])
    line = Picture([(0, 0), (1, 0), (2, 0), (0, 0), (1, 0)])
    far = Picture([(0, 0), (0, 0), (0, 0), (1, 0), (0, 1)])
    return [Album([flat]), Album([flat, flat.times(2)]), Album([flat, other, line]), Album([flat, far]), Album([line]), Album([flat, line]),
            Album([flat, other, Picture([(4, 4)] * 5)]), Album([flat, Picture([(0, 0), (0, 0), (0, 0), (1, 1), (0, 0)])])]
