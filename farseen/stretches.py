"""Two pictures of unlike planes: their axis, their charts at any c, their depths."""

from farseen.across import chart_by, lines_of, square_of
from farseen.axes import Axis, axis
from farseen.charts import NoRest, Rest, check_chart, rest
from farseen.checks import common_divisor, lowest, primitive
from farseen.edges import ways_to
from farseen.errors import Impossible, Misfit
from farseen.guards import check_c
from farseen.papers import Denial, Paper
from farseen.pictures import check_picture, check_two


class Along(Paper):
    """The square of the axis, the row along, and the row across of each picture."""

    def __init__(self, square, row, mine, its):
        super().__init__("along", square, row, mine, its)
        self.square, self.row, self.mine, self.its = self.parts


class Turn(Paper):
    """The chart is that of both pictures at this c."""

    def __init__(self, c):
        super().__init__("turn", c)
        self.c = self.parts[0]


class Unfit(Denial):
    """What this picture leaves of the chart is no Rest: the pins show it."""

    def __init__(self, number, pins):
        super().__init__("unfit", number, pins)
        self.number, self.pins = self.parts


def along(one, other):
    """The Along of two pictures that have an axis with equal squares."""
    told = axis(one, other)
    if not isinstance(told, Axis):
        raise Impossible(told)
    row, mine, its = lines_of(one, other, (told.mine, told.its))
    return Along(square_of(told.mine), row, mine, its)


def _along_with(one, other, c):
    """The Along of both pictures, behind the errors of all three arguments."""
    check_picture(one, "one")
    check_picture(other, "other")
    check_c(c)
    return along(one, other)


def chart_at(one, other, c):
    """The chart at c of two pictures."""
    told = _along_with(one, other, c)
    return chart_by(c, told.square, told.parts[1:])


def depths_at(one, other, c):
    """The depths in the first picture: the Rest of the chart at c by its rows."""
    told = _along_with(one, other, c)
    number, by = c
    row = [by * q - number * p for p, q in zip(told.mine, told.its)]
    divisor = common_divisor(row)
    least = (by * by - number * number) * told.square
    return Rest(lowest(divisor * divisor, least), primitive(row))


def turn(one, other, chart):
    """The Turn of a chart of both pictures, or the Unfit."""
    check_picture(one, "one")
    check_picture(other, "other")
    check_chart(chart, "chart")
    check_two(one, other)
    if chart.pins != one.pins:
        raise Misfit("pins")
    told = along(one, other)
    left = rest(chart, one.rows)
    if isinstance(left, NoRest):
        return Unfit(0, left.pins)
    its = rest(chart, other.rows)
    if isinstance(its, NoRest):
        return Unfit(1, its.pins)
    # What is left is a multiple of q less c p, so q is c times p and a multiple of it.
    return Turn(ways_to(told.mine, left.row, told.its)[0])
