"""Quarrels: lots of pictures that are none's, while no shorter lot of them is."""

from farseen.albums import check_album
from farseen.amiss import is_whole, lots_amiss, spread
from farseen.held import Held


def quarrels(album):
    """All quarrels of an album, ordered."""
    check_album(album, "album")
    held = Held(album)
    if is_whole(held):
        return ()
    return spread(lots_amiss(held, None), held.lots)
