"""Turns: points one away from (0, 0), each of which stands for an angle."""

from typedcurve.checks import is_within
from typedcurve.demands import need_number, need_point, need_turn
from typedcurve.errors import BadNumber
from typedcurve.papers import fixed
from typedcurve.ratios import (
    difference_of, negative_of, product_of, quotient_of, sign_in, sum_of)

MOST_TURNS = 60


def added(one, other):
    """The turn of both angles, added."""
    need_turn(one, "one")
    need_turn(other, "other")
    return turned(one, other)


def back_turn(turn):
    """The turn that turns back what this one turns."""
    need_turn(turn, "turn")
    cosine, sine = fixed(turn)
    return cosine, negative_of(sine)


def doubled(turn):
    """The turn added to itself."""
    need_turn(turn, "turn")
    return turned(turn, turn)


def multiplied(turn, many):
    """The turn so many times, turned back if many is below 0."""
    need_turn(turn, "turn")
    if not is_within(many, -MOST_TURNS, MOST_TURNS):
        raise BadNumber("many")
    step = turn if many > 0 else back_turn(turn)
    total = (1, 0)
    for _ in range(abs(many)):
        total = turned(total, step)
    return total


def turn_between(one, other):
    """The turn that makes other of one, if it is added."""
    need_turn(one, "one")
    need_turn(other, "other")
    return turned(other, back_turn(one))


def turned(point, turn):
    """A point turned about (0, 0)."""
    need_point(point, "point")
    need_turn(turn, "turn")
    x, y = point
    cosine, sine = turn
    return (difference_of(product_of(cosine, x), product_of(sine, y)),
            sum_of(product_of(sine, x), product_of(cosine, y)))


def by_half(number):
    """The turn the tangent of half of whose angle is this number."""
    need_number(number, "number")
    square = product_of(number, number)
    below = sum_of(1, square)
    return quotient_of(difference_of(1, square), below), quotient_of(product_of(2, number), below)


def half_of(turn):
    """The number of which by_half makes this turn, None for (-1, 0)."""
    need_turn(turn, "turn")
    cosine, sine = turn
    below = sum_of(1, cosine)
    return None if sign_in(below) == 0 else quotient_of(sine, below)
