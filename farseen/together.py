"""Two albums: whether they are of one body."""

from farseen.albums import check_album
from farseen.papers import Denial, Paper
from farseen.settled import One, settle, settled_paper


class Same(Paper):
    """Both albums are of one body; the Chart of both."""

    def __init__(self, chart):
        super().__init__("same", chart)
        self.chart = self.parts[0]


class Maybe(Paper):
    """Both albums can be of one body, but are not surely so."""

    def __init__(self):
        super().__init__("maybe")


class Parted(Denial):
    """No body has both albums: the reason of both together."""

    def __init__(self, reason):
        super().__init__("parted", reason)
        self.reason = self.parts[0]


def together(album, other):
    """The Same, the Maybe or the Parted of two albums."""
    check_album(album, "album")
    check_album(other, "other")
    whole = album.joined(other)
    own, its = settled_paper(album), settled_paper(other)
    told = settle(whole)
    if isinstance(told, Denial):
        return Parted(told)
    if isinstance(own, One) and isinstance(its, One):
        return Same(told.chart)
    return Maybe()
