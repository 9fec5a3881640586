"""Whether papers on sayings are right."""

from farseen.albums import check_album
from farseen.charts import Chart, Rest, rest, solid
from farseen.check_charts import are_squares
from farseen.checks import is_ratio
from farseen.errors import Misfit
from farseen.exact import is_made, is_same
from farseen.freely import Form, FreeDepths
from farseen.judged import Never, Open, Sure, can_be_at, can_be_in, row_of, told_word
from farseen.papers import Denial
from farseen.sayings import check_saying
from farseen.settled import Free, One, settle
from farseen.signs import Signs, sign_at, signs
from farseen.stretches import along


def shows_signs(row, value):
    """Whether it is any Signs of the three integers."""
    told = signs(row)
    if not is_made(value) or not isinstance(value, Signs):
        return False
    below, zero, above = value.parts
    return (_is_place(row, below, told.below, -1) and _is_place(row, above, told.above, 1)
            and _are_places_at_0(row, zero, told.zero))


def _is_c(value):
    return is_ratio(value) and abs(value[0]) < value[1]


def _is_place(row, c, told, sign):
    """Whether it is a ratio at which there is this sign, or None if there is none."""
    if told is None:
        return c is None
    return _is_c(c) and sign_at(row, c) == sign


def _are_places_at_0(row, places, told):
    if told is None:
        return places is None
    if not isinstance(places, tuple) or not all([_is_c(c) for c in places]):
        return False
    return [sign_at(row, c) for c in places] in ([0], [-1, 1])


def shows_judged(album, saying, value):
    """Whether it is a right Sure, Never or Open of the saying."""
    check_album(album, "album")
    check_saying(saying, "saying")
    if saying.pins > album.pins:
        raise Misfit("pins")
    if not is_made(value):
        return False
    if isinstance(value, Open):
        return _is_open(album, saying, value.parts)
    return isinstance(value, (Sure, Never)) and _is_told(album, saying, value)


def _is_told(album, saying, value):
    told = settle(album)
    if isinstance(told, Denial):
        return False
    if isinstance(told, Free):
        return is_told_freely(saying, album.pictures[0], value)
    if isinstance(told, One):
        return is_told_by(saying, can_be_in(saying, told.chart), value)
    its = along(album.pictures[told.one], album.pictures[told.other])
    return is_told_by(saying, can_be_at(row_of(saying, its.square, its.parts[1:])), value)


def is_told_by(saying, can_be, value):
    """Whether a Sure or a Never is right by whether the sum can be below, just, above; of an album that is not free."""
    return told_word(saying.word, can_be) == value.word and is_same(value.parts, ((),))


def is_told_freely(saying, picture, value):
    """Whether a Sure or a Never is right of a free album with this picture."""
    can_be = FreeDepths(Form(saying, picture.pins), picture).can_be()
    return told_word(saying.word, can_be) == value.word and _are_squares_of(saying, picture.pins, value.parts[0])


def _are_squares_of(saying, pins, terms):
    """Whether the terms make the form, or this times -1."""
    form = saying.form(pins)
    negative = Chart([[-number for number in row] for row in form.rows], form.by)
    return are_squares(form, terms) or are_squares(negative, terms)


def _is_of(album, chart):
    """Whether a body that has the album has this chart; if so the album is not none's.

    A thin picture leaves no Rest of a solid chart.
    """
    return is_solid_of(chart, album.pins) and all([isinstance(rest(chart, picture.rows), Rest)
                                                   for picture in album.pictures])


def is_solid_of(value, pins):
    """Whether it is a solid chart of so many pins."""
    return isinstance(value, Chart) and value.pins == pins and solid(value)


def charts_told(parts):
    """What stands for charts in the parts of an Open, none if this is not so."""
    one, other = parts
    return one + (other,) if isinstance(one, tuple) else ()


def _is_open(album, saying, parts):
    charts = charts_told(parts)
    return len(charts) > 0 and all([_is_of(album, chart) for chart in charts]) and opens(saying, parts)


def opens(saying, parts):
    """Whether the first charts keep the saying, or hold it between them, while the last one does not keep it."""
    one, other = parts
    if saying.holds(other):
        return False
    if len(one) == 1:
        return saying.holds(one[0])
    if saying.word != "just":
        return False
    # The sum is just the number in some chart between both.
    return [can_be_in(saying, chart) for chart in one] == [(True, False, False), (False, False, True)]
