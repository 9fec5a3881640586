"""What facts force, and which of them clash."""

from itertools import combinations
from farseen.errors import BadFact, Impossible
from farseen.facts import Fact
from farseen.fronts import check_fact_in, check_many, check_told_facts, clashes_in, held_facts, paper_in
from farseen.papers import Denial


def _held_together(album, facts):
    """The facts, held against the readings; Impossible with the Against if they do not hold together."""
    held = held_facts(album, facts)
    told = paper_in(held)
    if isinstance(told, Denial):
        raise Impossible(told)
    return held


def _facts_of(album):
    """All facts that can be told of the album, ascending."""
    pairs = [(near, far) for near in range(album.pins) for far in range(album.pins) if near != far]
    return [Fact(picture, near, far) for picture in range(len(album.pictures)) for near, far in pairs]


def forced_facts(album, facts):
    """All facts that these force, ascending."""
    check_told_facts(album, facts)
    check_many(facts)
    held = _held_together(album, facts)
    readings = held.readings
    return tuple([fact for fact in _facts_of(album) if readings.is_forced(held.lets, readings.let_by(fact))])


def forcing(album, facts, fact):
    """The first lot of the facts that forces this one, None if all do not."""
    check_told_facts(album, facts)
    if not isinstance(fact, Fact):
        raise BadFact("fact")
    check_fact_in(fact, album)
    check_many(facts)
    held = _held_together(album, facts)
    let = held.readings.let_by(fact)
    if not held.readings.is_forced(held.lets, let):
        return None
    return _first_forcing(held, let)


def _first_forcing(held, let):
    """The first lot by which this is forced, as it is by all."""
    for size in range(1, len(held.firsts) + 1):
        for lot in combinations(held.firsts, size):
            if held.readings.is_forced(held.lets_of(lot), let):
                return lot
    return None


def clashes(album, facts):
    """All clashes of the facts, ordered."""
    check_told_facts(album, facts)
    check_many(facts)
    return tuple(clashes_in(held_facts(album, facts), None))
