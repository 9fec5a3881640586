"""Slow and plain: which facts the readings of an album have, reading by reading, and albums with facts to try it on."""

import itertools
from fractions import Fraction

from farseen.albums import Album
from farseen.facts import Fact
from farseen.kin import kin
from tests.helpers import chance, plain_determinant
from tests.plain_albums import across_of, both_directions, chart_of, chart_rows_at, plain_chart, plain_kind, plain_planes, rows_of, some_four
from tests.test_bodies import some_bodies
from tests.test_fits import plain_rest


def plain_hand(rows):
    """The sign of the determinant of three rows, at the first three columns at which it is not 0."""
    for lot in itertools.combinations(range(len(rows[0])), 3):
        told = plain_determinant([[row[at] for at in lot] for row in rows])
        if told:
            return 1 if told > 0 else -1
    return None


def depths_of_hand(chart, picture, hand):
    """The ratio and the row of the depths in a picture, in the reading of this hand."""
    ratio, row = plain_rest(chart, picture)
    if plain_hand(rows_of(picture) + [list(row)]) != hand:
        row = [-number for number in row]
    return ratio, [0] + list(row)


def reading_of(album, chart, hand):
    """For each picture what all pins have in depth, but for a factor above 0."""
    return [depths_of_hand(chart, picture, hand)[1] for picture in album.pictures]


def turning_points(one, other):
    """All c between -1 and 1 at which two pins can have one depth."""
    mine, its = both_directions(one, other)
    p, q = [0] + across_of(one, mine), [0] + across_of(other, its)
    found = set()
    for a, b in itertools.combinations(range(len(p)), 2):
        x, y = p[b] - p[a], q[b] - q[a]
        found |= {Fraction(u, v) for u, v in ((x, y), (y, x)) if v and abs(u) < abs(v)}
    return sorted(found)


def tried_places(one, other):
    """Numbers c: all turning points, and one between each two."""
    ends = [Fraction(-1)] + turning_points(one, other) + [Fraction(1)]
    return ends[1:-1] + [(a + b) / 2 for a, b in itertools.pairwise(ends)]


def has(reading, fact):
    return reading[fact.picture][fact.near] < reading[fact.picture][fact.far]


class PlainReadings:
    """Enough readings of an album that is not none's to tell by all of them."""

    def __init__(self, album):
        self.album = album
        self.kind, planes = plain_kind(album), plain_planes(album)
        self.keys, self.readings = [], []
        if self.kind == "one":
            chart = plain_chart(album)
            for hand in (-1, 1):
                self.take(hand, reading_of(album, chart, hand))
        elif self.kind == "stretch":
            one, other = [album.pictures[lot[0]] for lot in planes]
            self.ends = [Fraction(-1)] + turning_points(one, other) + [Fraction(1)]
            for c in tried_places(one, other):
                chart = chart_of(chart_rows_at(one, other, c))
                for hand in (-1, 1):
                    self.take((hand, c), reading_of(album, chart, hand))
        else:
            first = album.pictures[0]
            hands = [kin(first, picture).hand for picture in album.pictures]
            for order in itertools.permutations(range(album.pins)):
                at = [order.index(pin) for pin in range(album.pins)]
                self.take(order, [[hand * number for number in at] for hand in hands])

    def take(self, key, reading):
        self.keys.append(key)
        self.readings.append(reading)

    def keys_with(self, facts):
        """What tells the readings that have all these facts."""
        return [key for key, reading in zip(self.keys, self.readings) if all(has(reading, fact) for fact in facts)]

    def force(self, facts, fact):
        return all(has(reading, fact) for reading in self.readings if all(has(reading, one) for one in facts))

    def parts(self, facts):
        """What `fronts` tells of facts that hold together."""
        keys = self.keys_with(facts)
        if self.kind == "one":
            return (tuple(keys),)
        if self.kind == "free":
            return (min(keys),)
        return tuple(self.range_of([c for hand, c in keys if hand == its]) for its in (1, -1))

    def range_of(self, places):
        if not places:
            return None
        low = max(end for end in self.ends if end < min(places))
        high = min(end for end in self.ends if end > max(places))
        return (low.numerator, low.denominator), (high.numerator, high.denominator)

    def lots_against(self, facts):
        """All lots of facts that do not hold together, while all do with one left out."""
        found, numbers = [], range(len(facts))
        for size in range(1, len(facts) + 1):
            for lot in itertools.combinations(numbers, size):
                if not any(set(its) <= set(lot) for its in found) and not self.keys_with([facts[number] for number in lot]):
                    found.append(lot)
        return tuple(found)


def all_facts(album):
    """All facts that can be told, ascending."""
    pins = range(album.pins)
    return [Fact(picture, near, far) for picture in range(len(album)) for near in pins for far in pins if near != far]


def some_facts(dice, album, many):
    """Facts of chance, some of them told twice."""
    facts = [dice.choice(all_facts(album)) for _ in range(many)]
    return facts + facts[:dice.randrange(2)]


def seen_facts(album, depths, dice, many):
    """Facts that a body with these depths in each picture has; fewer if most pins are equally deep."""
    found = []
    for _ in range(many):
        picture = dice.randrange(len(album))
        near, far = dice.sample(range(album.pins), 2)
        mine = [0] + list(depths[picture])
        if mine[near] < mine[far]:
            found.append(Fact(picture, near, far))
        elif mine[far] < mine[near]:
            found.append(Fact(picture, far, near))
    return found


def turned_albums(seed, many):
    """Albums of bodies with the body's hand, and its depths in each picture; some pictures mirrored."""
    dice = chance(seed)
    for at, body in enumerate(some_bodies(seed + 1, many, 3)):
        fours = [some_four(dice, 2, at % 3 == 0) for _ in range(1 + at % 4)]
        pictures, depths = [], []
        for picture, four in zip(body.album(fours).pictures, fours):
            row = body.turned(four).depths()
            if dice.randrange(3) == 0:
                picture, row = picture.mirrored().turned(), [-number for number in row]
            pictures.append(picture)
            depths.append(row)
        yield Album(pictures), plain_hand(body.rows), depths


def few_pin_albums(seed, many):
    """Such albums of at most five pins: for all orders of more pins there is no time."""
    return [told for told in turned_albums(seed, many) if told[0].pins < 6]
