"""Whether papers on new pictures and new pins are right."""

from farseen.albums import check_album
from farseen.charts import Chart, Rest
from farseen.check_settled import shows_settle
from farseen.checks import is_ratio
from farseen.exact import is_lot, is_made, is_same
from farseen.fits import Fits
from farseen.newpins import Anywhere, Line, NoPlace, Place, Seen, check_new_pin, pin_seen
from farseen.papers import Denial
from farseen.points import Amiss, Foretold, InPlane, Loose, Mix, foretold, mix
from farseen.ratios import minus, over, times
from farseen.settled import Free, One, Stretch, rest_of, settle


def shows_fits(album, picture, value):
    """Whether it is the Fits, or any denial of the album with the picture."""
    check_album(album, "album")
    whole = album.with_picture(picture)
    if not is_made(value):
        return False
    if isinstance(value, Fits):
        return _is_fits(settle(whole), picture, value.parts)
    return isinstance(value, Denial) and shows_settle(whole, value)


def _is_told(value, told):
    """Whether it is a paper like this one, with the same parts."""
    return is_made(value) and value.word == told.word and is_same(value.parts, told.parts)


def _is_fits(told, picture, parts):
    mine, left = parts
    if not isinstance(told, One):
        return isinstance(mine, (Free, Stretch)) and _is_told(mine, told) and left is None
    if not isinstance(mine, One) or not is_made(mine) or not isinstance(left, Rest):
        return False
    chart = mine.parts[0]
    return isinstance(chart, Chart) and chart == told.chart and _is_told(left, rest_of(told, picture))


def shows_mix(album, four, pin, value):
    """Whether it is the Mix of the pin, or the InPlane of the four."""
    told = mix(album, four, pin)
    return isinstance(value, (Mix, InPlane)) and _is_told(value, told)


def shows_foretold(album, places, value):
    """Whether it is the Foretold, the Amiss, or the Loose."""
    told = foretold(album, places)
    return isinstance(value, (Foretold, Amiss, Loose)) and _is_told(value, told)


def shows_new_pin(album, places, value):
    """Whether it is the Place, a Line with any place on it, the Anywhere, or a NoPlace of any lot of pictures."""
    check_new_pin(album, places)
    seen = Seen(album, places)
    if not is_made(value):
        return False
    if isinstance(value, NoPlace):
        return _is_without(seen, value.parts[0])
    told = pin_seen(seen)
    if isinstance(value, Line) and isinstance(told, Line):
        return is_same(value.parts[1], told.directions) and _is_on(told, value.parts[0])
    return isinstance(value, (Place, Anywhere)) and _is_told(value, told)


def _is_without(seen, numbers):
    if not isinstance(numbers, tuple) or len(numbers) < 2 or not is_lot(numbers, len(numbers), 0, len(seen.ways) - 1):
        return False
    return all([number in seen.numbers for number in numbers]) and seen.mix_by(numbers) is None


def _is_on(line, places):
    """Whether they are the places of one point of the line."""
    many = len(line.places)
    if not isinstance(places, tuple) or len(places) != many:
        return False
    if not all([isinstance(place, tuple) and len(place) == 2 for place in places]):
        return False
    numbers = [number for place in places for number in place]
    if not all([is_ratio(number) for number in numbers]):
        return False
    starts = [number for place in line.places for number in place]
    ways = [(number, 1) for direction in line.directions for number in direction]
    gone = [minus(number, start) for number, start in zip(numbers, starts)]
    at = [k for k in range(2 * many) if ways[k] != (0, 1)][0]
    far = over(gone[at], ways[at])
    return all([times(far, way) == its for way, its in zip(ways, gone)])
