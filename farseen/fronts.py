"""In front: the depths that an album of kind one tells, and whether facts hold together."""

from farseen.albums import check_album
from farseen.amiss import lots_amiss
from farseen.errors import BadFact, Misfit, TooMany
from farseen.facts import are_facts
from farseen.guards import check_picture_number, check_pin
from farseen.papers import Denial, Paper
from farseen.readings import HandReadings, HeldFacts, RangeReadings, depths_in, readings_of
from farseen.settled import One, settled_paper

MOST_FACTS = 12
# A ring of a free album has no more facts than there are pins; other clashes are shorter.
LONGEST_CLASH = 7


class Depths(Paper):
    """The depths in the reading of hand 1: the root of square, times the row."""

    def __init__(self, square, row):
        super().__init__("depths", square, row)
        self.square, self.row = self.parts


class Hands(Paper):
    """The hands by which all facts are had."""

    def __init__(self, hands):
        super().__init__("hands", hands)
        self.hands = self.parts[0]


class Ranges(Paper):
    """For the hands 1 and -1 the ratios between which are all c by which the facts are had."""

    def __init__(self, plus, minus):
        super().__init__("ranges", plus, minus)
        self.plus, self.minus = self.parts


class Order(Paper):
    """All pins, so ordered that the facts are had if each has more depth than those ahead of it."""

    def __init__(self, pins):
        super().__init__("order", pins)
        self.pins = self.parts[0]


class Against(Denial):
    """The numbers of facts that do not hold together."""

    def __init__(self, numbers):
        super().__init__("against", numbers)
        self.numbers = self.parts[0]


def depths(album, picture):
    """The Depths in a picture of an album of kind one."""
    check_album(album, "album")
    check_picture_number(picture, len(album.pictures))
    told = settled_paper(album)
    if not isinstance(told, One):
        raise Misfit("kind")
    square, row = depths_in(told.chart, album.pictures[picture])
    return Depths(square, row)


def check_fact_in(fact, album):
    """Raise NoPicture or NoPin for what the fact tells of and the album has not."""
    check_picture_number(fact.picture, len(album.pictures))
    check_pin(fact.near, album.pins)
    check_pin(fact.far, album.pins)


def check_told_facts(album, facts):
    """Raise an error for what is no album, no facts, or facts that do not fit it, but none for too many."""
    check_album(album, "album")
    if not are_facts(facts):
        raise BadFact("facts")
    for fact in facts:
        check_fact_in(fact, album)


def check_many(facts):
    """Raise TooMany for more than twelve facts."""
    if len(facts) > MOST_FACTS:
        raise TooMany("facts", MOST_FACTS)


def held_facts(album, facts):
    """The facts, held against the readings of the album; Impossible for an album that is none's."""
    return HeldFacts(readings_of(album, settled_paper(album)), facts)


def clashes_in(held, most):
    """The first clashes of the facts, so many at most, or all for None."""
    return lots_amiss(held, most, LONGEST_CLASH)


def paper_left(readings, left):
    """The Hands, the Ranges or the Order of what is left of the readings."""
    if isinstance(readings, HandReadings):
        return Hands(left)
    if isinstance(readings, RangeReadings):
        return Ranges(left[0], left[1])
    return Order(left)


def paper_in(held):
    """What is left by all facts, or the Against of the first lot that does not hold together."""
    left = held.readings.left_by(held.lets)
    return Against(clashes_in(held, 1)[0]) if left is None else paper_left(held.readings, left)


def fronts(album, facts):
    """The Hands, the Ranges or the Order of facts that hold together, or the Against."""
    check_told_facts(album, facts)
    check_many(facts)
    return paper_in(held_facts(album, facts))
