"""Which pictures to take out so that none quarrel, and which few tell as much as all."""

from itertools import combinations
from farseen.albums import check_album
from farseen.amiss import is_whole
from farseen.errors import Impossible
from farseen.held import Held
from farseen.quarrels import quarrels
from farseen.reasons import first_reason

MOST_PLANES = 3


def _meets_all(lot, lots):
    for its in lots:
        if not any([number in lot for number in its]):
            return False
    return True


def fewest_struck(album):
    """The first lot of pictures that has at least one of each quarrel."""
    lots = quarrels(album)
    for size in range(len(album.pictures) + 1):
        for lot in combinations(range(len(album.pictures)), size):
            if _meets_all(lot, lots):
                return lot
    return ()


def settling(album):
    """The first lot of pictures whose album has the kind of the whole one."""
    check_album(album, "album")
    held = Held(album)
    if not is_whole(held):
        raise Impossible(first_reason(held))
    return tuple(held.firsts[:MOST_PLANES])
