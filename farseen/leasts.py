"""What lengths and volumes are at least, by two pictures alone."""

from farseen.across import on_step
from farseen.checks import lowest
from farseen.errors import Misfit
from farseen.guards import check_pins, check_step
from farseen.papers import Paper
from farseen.pictures import check_picture, check_two
from farseen.stretches import along
from farseen.tables import determinant


class Least(Paper):
    """The greatest ratio that no number is below, and the only c at which it is reached."""

    def __init__(self, number, c):
        super().__init__("least", number, c)
        self.number, self.c = self.parts


class Sole(Paper):
    """The number that is the same at all c."""

    def __init__(self, number):
        super().__init__("sole", number)
        self.number = self.parts[0]


def least_square(one, other, step):
    """The Least or the Sole of the square of a step."""
    check_picture(one, "one")
    check_picture(other, "other")
    check_step(step, one.pins)
    told = along(one, other)
    a, p, q = [on_step(row, step) for row in told.parts[1:]]
    if p == 0 and q == 0:
        return Sole(lowest(a * a, told.square))
    number = lowest(a * a + max(p * p, q * q), told.square)
    if abs(p) == abs(q):
        return Least(number, None)
    return Least(number, lowest(q, p) if abs(q) < abs(p) else lowest(p, q))


def least_volume(one, other, pins):
    """The Least or the Sole of the determinant of four pins."""
    check_picture(one, "one")
    check_picture(other, "other")
    check_pins(pins, one.pins)
    check_two(one, other)
    if len(pins) != 4:
        raise Misfit("pins")
    told = along(one, other)
    steps = [(pins[0], pin) for pin in pins[1:]]
    root = determinant([[on_step(row, step) for step in steps] for row in told.parts[1:]])
    number = lowest(root * root, told.square * told.square * told.square)
    return Sole(number) if root == 0 else Least(number, (0, 1))
