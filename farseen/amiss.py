"""Which lots of pictures, of rows of a tray, or of facts, are amiss while no shorter lot of them is.

What is asked here is an object with the numbers to try, of kin ones the first one alone, and `is_amiss` of a lot of
these.
"""

from itertools import combinations

LONGEST = 4


def _has_one_of(found, bits):
    for its in found:
        if its & bits == its:
            return True
    return False


def _bits_of(lot):
    bits = 0
    for number in lot:
        bits = bits | 1 << number
    return bits


def lots_amiss(held, most, longest=4):
    """The first lots of firsts that are amiss, while no shorter lot of them is, ordered, so many at most."""
    lots, found = [], []
    for size in range(1, longest + 1):
        for lot in combinations(held.firsts, size):
            if len(lots) == most:
                return lots
            bits = _bits_of(lot)
            if not _has_one_of(found, bits) and held.is_amiss(lot):
                lots.append(lot)
                found.append(bits)
    return lots


def is_whole(held):
    """Whether nothing is amiss: it is enough to hold all against the first three."""
    firsts = held.firsts
    if any([held.is_amiss((number,)) for number in firsts]):
        return False
    if len(firsts) < 2:
        return True
    one, other = firsts[0], firsts[1]
    if held.is_amiss((one, other)):
        return False
    for number in firsts[2:]:
        for lot in ((one, number), (other, number), (one, other, number)):
            if held.is_amiss(lot):
                return False
        if number != firsts[2] and held.is_amiss((one, other, firsts[2], number)):
            return False
    return True


def spread(lots, groups):
    """The lots with any members of the same groups in the place of the first ones, ordered."""
    members = {lot[0]: lot for lot in groups}
    found = []
    for size in range(1, LONGEST + 1):
        made = []
        for lot in lots:
            if len(lot) == size:
                made.extend(_choices([members[number] for number in lot]))
        found.extend(sorted(made))
    return tuple(found)


def _choices(groups):
    """Each lot with one number of each group."""
    made = [()]
    for group in groups:
        made = [begun + (number,) for begun in made for number in group]
    return [tuple(sorted(lot)) for lot in made]
