"""Steady trays: turned by one step each time."""

from farseen.checks import is_within, lowest
from farseen.edges import are_multiples, is_thin
from farseen.errors import BadNumber, Impossible, Misfit
from farseen.papers import Denial, Paper
from farseen.tables import dependence
from farseen.trays import check_tray

FURTHEST = 40
# After how many steps the rows come again; for no other ratio they ever do.
AGAIN = {(2, 1): 1, (-2, 1): 2, (-1, 1): 3, (0, 1): 4, (1, 1): 6}


class Steady(Paper):
    """Twice the cosine of the step, and after how many steps the rows come again."""

    def __init__(self, double, again):
        super().__init__("steady", double, again)
        self.double, self.again = self.parts


class SteadyOpen(Paper):
    """The tray can be steady, but its step is not told."""

    def __init__(self):
        super().__init__("steadyopen")


class Unsteady(Denial):
    """The first row at which the rows are of no steady tray."""

    def __init__(self, number):
        super().__init__("unsteady", number)
        self.number = self.parts[0]


def _double_of_two(rows):
    """2 or -2 for two kin rows, None for others that are multiples."""
    if rows[1] == rows[0]:
        return (2, 1)
    if list(rows[1]) == [-number for number in rows[0]]:
        return (-2, 1)
    return None


def _double_of_three(rows):
    """The k, between -2 and 2, with which the third row is k times the second less the first, or None."""
    ahead = [first + third for first, third in zip(rows[0], rows[2])]
    sums = dependence([rows[1], ahead])
    if sums is None:
        return None
    double = lowest(-sums[0], sums[1])
    return double if abs(double[0]) < 2 * double[1] else None


def _leads_to(double, rows, number):
    """Whether this row is double times the one ahead of it less the one ahead of that."""
    times_ahead, by = double
    return all([by * (first + third) == times_ahead * second
                for first, second, third in zip(rows[number - 2], rows[number - 1], rows[number])])


def steady(tray):
    """The Steady of the rows, one behind another, the SteadyOpen, or the Unsteady."""
    check_tray(tray, "tray")
    rows = tray.rows
    if is_thin(rows[0]):
        return Unsteady(0)
    if len(rows) == 1:
        return SteadyOpen()
    two_tell = are_multiples(rows[0], rows[1])
    if not two_tell and len(rows) == 2:
        return SteadyOpen()
    double = _double_of_two(rows) if two_tell else _double_of_three(rows)
    if double is None:
        return Unsteady(1 if two_tell else 2)
    for number in range(2, len(rows)):
        if not _leads_to(double, rows, number):
            return Unsteady(number)
    return Steady(double, AGAIN.get(double))


def steady_row(tray, number):
    """The row with this number of a steady tray, less the place of pin 0."""
    check_tray(tray, "tray")
    if not is_within(number, -FURTHEST, FURTHEST):
        raise BadNumber("number")
    told = steady(tray)
    if isinstance(told, SteadyOpen):
        raise Misfit("kind")
    if isinstance(told, Unsteady):
        raise Impossible(told)
    return _row_on(told.double, tray.rows, number)


def _row_on(double, rows, number):
    """The row so many steps from row 0: forth from row 0 to row 1, or back from row 1 to row 0."""
    first, second = rows[:2]
    if number < 0:
        first, second, number = second, first, 1 - number
    if number == 0:
        return tuple([(place, 1) for place in first])
    ahead, now, by = _parts_after(double, number)
    return tuple([lowest(now * its - ahead * mine, by) for mine, its in zip(first, second)])


def _parts_after(double, steps):
    """How many times the first row, taken off, and the second one make the row so many steps on, over a number."""
    times_ahead, by = double
    square = by * by
    ahead, now, power = 0, 1, 1
    for _ in range(steps - 1):
        # The first part lags one power of by behind the second one, which keeps both integers.
        ahead, now, power = now, times_ahead * now - square * ahead, power * by
    return (ahead * by, now, power)
