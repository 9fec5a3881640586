"""Whether papers on kin pictures are right."""

from farseen.checks import are_integers, common_divisor, is_integer, is_within
from farseen.exact import is_made
from farseen.kin import Kin, NotKin, is_turn, steps_of
from farseen.pictures import check_two


def shows_kin(one, other, value):
    """Whether it is a Kin of both pictures of any hand and turn, or a NotKin of any pins."""
    check_two(one, other)
    if not is_made(value):
        return False
    if isinstance(value, Kin):
        return _is_kin(one, other, value.parts)
    return isinstance(value, NotKin) and _are_apart(one, other, value.parts)


def _is_kin(one, other, parts):
    hand, turn = parts
    if not is_integer(hand) or hand not in (1, -1):
        return False
    if not are_integers(turn) or len(turn) != 3 or common_divisor(turn) != 1:
        return False
    by, x, y = turn
    if by <= 0 or by * by != x * x + y * y:
        return False
    return is_turn(turn, steps_of(one, hand), steps_of(other, 1))


def _are_apart(one, other, parts):
    if not all([is_within(pin, 1, one.pins - 1) for pin in parts]):
        return False
    pin, its = parts
    return one.products()[pin - 1][its - 1] != other.products()[pin - 1][its - 1]
