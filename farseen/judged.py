"""What of an album is sure, never, or open."""

from itertools import combinations
from farseen.across import chart_by, on_step
from farseen.albums import check_album
from farseen.amiss import is_whole
from farseen.charts import product_in
from farseen.checks import common_divisor, is_list
from farseen.errors import BadSaying, Impossible, Misfit, TooMany
from farseen.freely import Form, FreeDepths
from farseen.held import Held
from farseen.lots import grouped
from farseen.papers import Denial, Paper
from farseen.reasons import first_reason
from farseen.sayings import Saying, check_saying, sum_in
from farseen.settled import One, Stretch, settle, settled_paper
from farseen.signs import signs
from farseen.stretches import along

# In the order in which it is told what the sum can be.
WORDS = ("below", "just", "above")
MOST_SAYINGS = 8
MOST_PLANES = 3


class Sure(Paper):
    """All charts of the album keep the saying; of a free album the squares of its form."""

    def __init__(self, squares):
        super().__init__("sure", squares)
        self.squares = self.parts[0]


class Open(Paper):
    """Charts that keep the saying, and one that does not."""

    def __init__(self, one, other):
        super().__init__("open", one, other)
        self.one, self.other = self.parts


class Never(Denial):
    """No chart of the album keeps the saying; of a free album the squares of its form."""

    def __init__(self, squares):
        super().__init__("never", squares)
        self.squares = self.parts[0]


def told_word(word, can_be):
    """Sure, never or open, by whether the sum can be below, just, above its number."""
    keeps = [can for its, can in zip(WORDS, can_be) if its == word][0]
    parts = [can for its, can in zip(WORDS, can_be) if its != word]
    if not keeps:
        return "never"
    return "open" if any(parts) else "sure"


def can_be_in(saying, chart):
    """Whether the sum is below, just, above its number in the one chart."""
    difference = sum_in(chart.rows, saying.terms) - saying.number * chart.by
    return (difference < 0, difference == 0, difference > 0)


def row_of(saying, square, lines):
    """The x, y, z whose x + y c + z c c has at all c the sign of the sum less the number."""
    flat, wide, cross = -square * saying.number, 0, 0
    for many, step, its in saying.terms:
        (a, p, q), (d, e, f) = [[on_step(row, one) for row in lines] for one in (step, its)]
        flat = flat + many * a * d
        wide = wide + many * (p * e + q * f)
        cross = cross + many * (p * f + q * e)
    row = (flat + wide, -cross, -flat)
    divisor = max(1, common_divisor(row))
    return tuple([number // divisor for number in row])


def can_be_at(row):
    """Whether the sum is below, just, above its number at some c."""
    told = signs(row)
    return (told.below is not None, told.zero is not None, told.above is not None)


def _opened(word, charts):
    """The Open, by a chart with a sum below, charts that show one just at the number, and one above it."""
    low, just, high = charts
    if word == "just":
        return Open(just, high if low is None else low)
    one, other = (low, high) if word == "below" else (high, low)
    return Open((one,), just[0] if other is None else other)


def _paper(saying, can_be, squares):
    """The Sure or the Never, None for what is open."""
    word = told_word(saying.word, can_be)
    if word == "open":
        return None
    return Sure(squares) if word == "sure" else Never(squares)


def judged_freely(saying, picture):
    """The paper on a free album with this picture."""
    form = Form(saying, picture.pins)
    depths = FreeDepths(form, picture)
    told = _paper(saying, depths.can_be(), form.shown())
    return _opened(saying.word, depths.charts()) if told is None else told


def judged_along(saying, square, lines):
    """The paper on a stretch with these rows along and across."""
    row = row_of(saying, square, lines)
    told = _paper(saying, can_be_at(row), ())
    if told is not None:
        return told
    below, zero, above = signs(row).parts
    low = None if below is None else chart_by(below, square, lines)
    high = None if above is None else chart_by(above, square, lines)
    if below is not None and above is not None:
        return _opened(saying.word, (low, (low, high), high))
    return _opened(saying.word, (low, (chart_by(zero[0], square, lines),), high))


def judged_in(saying, chart):
    """The paper on an album with one chart."""
    return _paper(saying, can_be_in(saying, chart), ())


def _check_pins(album, sayings):
    if any([saying.pins > album.pins for saying in sayings]):
        raise Misfit("pins")


def _along_of(album, told):
    return along(album.pictures[told.one], album.pictures[told.other])


def judged(album, saying):
    """The Sure, the Never, or the Open of a saying."""
    check_album(album, "album")
    check_saying(saying, "saying")
    _check_pins(album, [saying])
    told = settled_paper(album)
    if isinstance(told, One):
        return judged_in(saying, told.chart)
    if isinstance(told, Stretch):
        its = _along_of(album, told)
        return judged_along(saying, its.square, its.parts[1:])
    return judged_freely(saying, album.pictures[0])


def stretch_row(album, saying):
    """The three integers that tell the sign of the sum less the number at all c of a stretch."""
    check_album(album, "album")
    check_saying(saying, "saying")
    _check_pins(album, [saying])
    told = settle(album)
    if not isinstance(told, Stretch):
        raise Misfit("kind")
    its = _along_of(album, told)
    return row_of(saying, its.square, its.parts[1:])


def _steps(album):
    return list(combinations(range(album.pins), 2))


def equal_steps(album):
    """The steps in tuples of those that are surely as long as one another."""
    told, steps = settled_paper(album), _steps(album)
    if isinstance(told, One):
        keys = [product_in(told.chart.rows, step, step) for step in steps]
    elif isinstance(told, Stretch):
        lines = _along_of(album, told).parts[1:]
        keys = [_products_on(lines, step, step) for step in steps]
    else:
        # Depths part any two steps.
        keys = steps
    return tuple([tuple([steps[at] for at in lot]) for lot in grouped(keys)])


def _products_on(lines, step, its):
    """What the product of two steps at all c is made of."""
    (a, p, q), (d, e, f) = [[on_step(row, one) for row in lines] for one in (step, its)]
    return (a * d, p * e + q * f, p * f + q * e)


def right_steps(album):
    """All pairs of steps, the lesser one first, whose product is surely 0."""
    told, steps = settled_paper(album), _steps(album)
    pairs = list(combinations(steps, 2))
    if isinstance(told, One):
        return tuple([pair for pair in pairs if product_in(told.chart.rows, pair[0], pair[1]) == 0])
    if isinstance(told, Stretch):
        lines = _along_of(album, told).parts[1:]
        return tuple([pair for pair in pairs if not any(_products_on(lines, pair[0], pair[1]))])
    return ()


def _made_by(held, lot):
    """What the charts of these pictures, no two of them kin, are made of: a picture, rows along and across, a chart."""
    if len(lot) == 1:
        return held.pictures[lot[0]]
    return held.lines_by(lot) if len(lot) == 2 else held.chart_of(lot)


def _word_by(form, made, many):
    """Sure, never or open, by what the charts of so many pictures are made of."""
    if many == 1:
        can_be = FreeDepths(form, made).can_be()
    elif many == 2:
        can_be = can_be_at(row_of(form.saying, made[0], made[1]))
    else:
        can_be = can_be_in(form.saying, made)
    return told_word(form.saying.word, can_be)


def _tells_all(held, lot, forms, words):
    made = _made_by(held, lot)
    for form, word in zip(forms, words):
        if _word_by(form, made, len(lot)) != word:
            return False
    return True


def enough(album, sayings):
    """The first lot of pictures by which alone each saying is sure, never or open just as by all."""
    check_album(album, "album")
    if not is_list(sayings) or not all([isinstance(saying, Saying) for saying in sayings]):
        raise BadSaying("sayings")
    _check_pins(album, sayings)
    if len(sayings) > MOST_SAYINGS:
        raise TooMany("sayings", MOST_SAYINGS)
    held = Held(album)
    if not is_whole(held):
        raise Impossible(first_reason(held))
    # Three pictures of unlike planes tell what all tell, and so do fewer if there are fewer planes.
    all_tell = tuple(held.firsts[:MOST_PLANES])
    made, forms = _made_by(held, all_tell), [Form(saying, album.pins) for saying in sayings]
    words = [_word_by(form, made, len(all_tell)) for form in forms]
    for size in range(1, len(all_tell)):
        for lot in combinations(held.firsts, size):
            if _tells_all(held, lot, forms, words):
                return lot
    return all_tell
