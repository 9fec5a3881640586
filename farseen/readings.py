"""Readings: the depths that one body can have in all pictures of an album, and what facts let of them.

For each kind of an album there is a class of objects with these methods:
`let_by` tells what a fact lets, `left_by` what is left by all of several such, None if nothing is,
`is_forced` whether what several let has nothing but what another one lets, too.
"""

from farseen.across import on_step
from farseen.charts import rest
from farseen.checks import lowest
from farseen.kin import Kin, kin
from farseen.ratios import compared
from farseen.settled import One, Stretch
from farseen.stretches import along
from farseen.tables import determinant, rank

HANDS = (-1, 1)


def hand_of(rows):
    """The sign of the determinant of three rows at the first three columns at which it is not 0."""
    columns = rank(rows).columns
    return 1 if determinant([[row[at] for at in columns] for row in rows]) > 0 else -1


def depths_in(chart, picture):
    """The ratio and the row, integers without a common divisor, of the depths in the reading of hand 1."""
    left = rest(chart, picture.rows)
    hand = hand_of(picture.rows + (left.row,))
    return (left.ratio, tuple([hand * number for number in left.row]))


class HandReadings:
    """Of an album of kind one: a reading for each hand."""

    def __init__(self, album, chart):
        self.rows = [depths_in(chart, picture)[1] for picture in album.pictures]

    def let_by(self, fact):
        """The hand that has the fact, 0 if none has."""
        far = on_step(self.rows[fact.picture], (fact.near, fact.far))
        if far == 0:
            return 0
        return 1 if far > 0 else -1

    def left_by(self, lets):
        """The hands that have all, ascending."""
        hands = tuple([hand for hand in HANDS if all([let == hand for let in lets])])
        return hands if hands else None

    def is_forced(self, lets, let):
        """Whether each hand that has all has this one."""
        return all([hand == let for hand in self.left_by(lets)])


def _range_by(lets, hand):
    """The pair of ratios between which are all c of this hand that are let, or None."""
    low, high = (-1, 1), (1, 1)
    for x, y in lets:
        if y == 0:
            if hand * x <= 0:
                return None
        elif hand * y > 0:
            end = lowest(-x, y)
            low = end if compared(end, low) > 0 else low
        else:
            end = lowest(-x, y)
            high = end if compared(end, high) < 0 else high
    return (low, high) if compared(low, high) < 0 else None


def _is_above_between(ends, x, y):
    """Whether x + y c is above 0 at all c between these ends."""
    worths = [x * by + y * number for number, by in ends]
    return min(worths) >= 0 and max(worths) > 0


class RangeReadings:
    """Of a stretch: a reading for each hand and each c.

    What a fact lets are two integers x and y: for hand h it is had at c if h times x + y c is above 0.
    """

    def __init__(self, album, told):
        one, other = album.pictures[told.one], album.pictures[told.other]
        _, a, p, q = along(one, other).parts
        sign = hand_of((a, p, q))
        self.across, self.its_across = [tuple([sign * number for number in row]) for row in (p, q)]
        self.sides = [self._side_of(one, other, picture) for picture in album.pictures]

    def _side_of(self, one, other, picture):
        """Whether the picture is kin to the one, and its hand as it is kin to the one or the other."""
        mine = kin(one, picture)
        if isinstance(mine, Kin):
            return (True, mine.hand)
        return (False, kin(other, picture).hand)

    def let_by(self, fact):
        """The two integers of the fact."""
        step, (is_of_one, hand) = (fact.near, fact.far), self.sides[fact.picture]
        p, q = hand * on_step(self.across, step), hand * on_step(self.its_across, step)
        return (q, -p) if is_of_one else (-p, q)

    def left_by(self, lets):
        """For the hands 1 and -1 the pair of ratios between which are all c, or None."""
        ranges = (_range_by(lets, 1), _range_by(lets, -1))
        return None if ranges == (None, None) else ranges

    def is_forced(self, lets, let):
        """Whether all c of both hands that have all have this one."""
        x, y = let
        for ends, hand in zip(self.left_by(lets), (1, -1)):
            if ends is not None and not _is_above_between(ends, hand * x, hand * y):
                return False
        return True


def _pins_behind(lets, pin):
    """The pins to which facts lead from this one, one behind another."""
    found, at = [pin], 0
    while at < len(found):
        for near, far in lets:
            if near == found[at] and far not in found:
                found.append(far)
        at += 1
    return found


class OrderReadings:
    """Of a free album: any depths in picture 0 that are not in its plane.

    What a fact lets are the near and the far pin in picture 0.
    """

    def __init__(self, album):
        self.pins = album.pins
        self.hands = [kin(album.pictures[0], picture).hand for picture in album.pictures]

    def let_by(self, fact):
        """The near and the far pin in picture 0."""
        return (fact.near, fact.far) if self.hands[fact.picture] == 1 else (fact.far, fact.near)

    def left_by(self, lets):
        """The first order of all pins in which each near one is ahead of its far one."""
        pins, left = [], list(range(self.pins))
        while left:
            fars = [far for near, far in lets if near in left]
            ready = [pin for pin in left if pin not in fars]
            if not ready:
                return None
            pins.append(ready[0])
            left.remove(ready[0])
        return tuple(pins)

    def is_forced(self, lets, let):
        """Whether facts lead from the near pin to the far one."""
        return let[1] in _pins_behind(lets, let[0])


def readings_of(album, told):
    """The readings of an album that is not none's, by what `settle` tells of it."""
    if isinstance(told, One):
        return HandReadings(album, told.chart)
    if isinstance(told, Stretch):
        return RangeReadings(album, told)
    return OrderReadings(album)


class HeldFacts:
    """Facts of an album, held against its readings."""

    def __init__(self, readings, facts):
        self.readings = readings
        self.lets = [readings.let_by(fact) for fact in facts]
        self.firsts = list(range(len(facts)))

    def lets_of(self, lot):
        """What the facts of the lot let."""
        return [self.lets[number] for number in lot]

    def is_amiss(self, lot):
        """Whether the facts of the lot do not hold together."""
        return self.readings.left_by(self.lets_of(lot)) is None
