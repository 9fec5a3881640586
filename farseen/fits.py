"""Whether a picture more can be of the body that an album tells of."""

from farseen.albums import check_album
from farseen.papers import Denial, Paper
from farseen.settled import rest_of, settle, settled_paper


class Fits(Paper):
    """The kind of the album with the picture, and the Rest that the picture leaves of the one chart, if any."""

    def __init__(self, kind, rest):
        super().__init__("fits", kind, rest)
        self.kind, self.rest = self.parts


def fits(album, picture):
    """The Fits of a picture, or the denial of the album with it."""
    check_album(album, "album")
    whole = album.with_picture(picture)
    settled_paper(album)
    told = settle(whole)
    return told if isinstance(told, Denial) else Fits(told, rest_of(told, picture))
