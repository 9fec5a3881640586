"""What an album tells: any depths, one number c, one chart, or that it is none's."""

from farseen.albums import check_album
from farseen.amiss import is_whole
from farseen.charts import rest
from farseen.errors import Impossible
from farseen.held import Held
from farseen.papers import Denial, Paper
from farseen.reasons import first_reason


class Free(Paper):
    """All pictures are kin."""

    def __init__(self):
        super().__init__("free")


class Stretch(Paper):
    """The first two pictures of unlike planes; there are just two planes."""

    def __init__(self, one, other):
        super().__init__("stretch", one, other)
        self.one, self.other = self.parts


class One(Paper):
    """The one chart of the album."""

    def __init__(self, chart):
        super().__init__("one", chart)
        self.chart = self.parts[0]


def settle(album):
    """The paper of what an album tells, or the first reason why it is none's."""
    check_album(album, "album")
    held = Held(album)
    if not is_whole(held):
        return first_reason(held)
    firsts = held.firsts
    if len(firsts) == 1:
        return Free()
    if len(firsts) == 2:
        return Stretch(firsts[0], firsts[1])
    return One(held.chart_of(tuple(firsts[:3])))


def settled_paper(album):
    """What `settle` tells of an album; Impossible with it for one that is none's."""
    told = settle(album)
    if isinstance(told, Denial):
        raise Impossible(told)
    return told


def kind(album):
    """The kind of an album as a word: free, stretch, one or none."""
    told = settle(album)
    return "none" if isinstance(told, Denial) else told.word


def is_nones(album):
    """Whether no body has all pictures of the album."""
    check_album(album, "album")
    return not is_whole(Held(album))


def rest_of(told, picture):
    """The Rest of the one chart by the rows of a picture, None for another kind."""
    return rest(told.chart, picture.rows) if isinstance(told, One) else None
