"""Arithmetic of values that are known to be places; what is passed is not checked here."""

from math import gcd, lcm

from typedcurve.numbers import root_of
from typedcurve.papers import fixed
from typedcurve.points import dot, gone_on, point_sum, point_times, square_off, way_from
from typedcurve.ratios import number_of, parts_of, product_of, quotient_of, sum_of

NO_WAY = (0, 0)


def point_spot(point):
    """The place that is its point."""
    return fixed(point), NO_WAY, 0


def spot_of(point, aside, root):
    """The place of a point, gone on by any point as aside times the root of a number from 0 on."""
    step = root_of(root)
    if step is not None:
        return point_spot(point_sum(point, point_times(aside, step)))
    (x_above, x_below), (y_above, y_below) = [parts_of(number) for number in aside]
    below = lcm(x_below, y_below)
    x, y = x_above * (below // x_below), y_above * (below // y_below)
    shared = gcd(x, y)
    if shared == 0:
        return point_spot(point)
    factor = number_of(shared, below)
    return fixed(point), (x // shared, y // shared), product_of(root, product_of(factor, factor))


def is_kin(one, other):
    """Whether the roots of two places are kin."""
    if one[2] == 0 or other[2] == 0:
        return False
    return root_of(product_of(one[2], other[2])) is not None


def other_side(place):
    """The place on the other side of its point."""
    point, (x, y), root = place
    return point, (-x, -y), root


def square_apart(one, other):
    """The square of the distance of two places if it is a number, None otherwise."""
    way = way_from(one[0], other[0])
    square = dot(way, way)
    alike = _by_one_root(one, other)
    if alike is not None:
        aside, other_aside, root = alike
        if dot(way, way_from(aside, other_aside)) != 0:
            return None
        return sum_of(square, product_of(root, square_off(aside, other_aside)))
    (_, aside, root), (_, other_aside, other_root) = one, other
    if dot(way, aside) != 0 or dot(way, other_aside) != 0 or dot(aside, other_aside) != 0:
        return None
    both = sum_of(product_of(root, dot(aside, aside)), product_of(other_root, dot(other_aside, other_aside)))
    return sum_of(square, both)


def spot_between(one, other, share):
    """The place at one, gone on by share times the way to other; None if no place tells it."""
    alike = _by_one_root(one, other)
    if alike is not None:
        aside, other_aside, root = alike
        return spot_of(gone_on(one[0], other[0], share), gone_on(aside, other_aside, share), root)
    # Roots that are not kin never make one root together, so one of them must be left out.
    if share == 0:
        return fixed(one)
    return fixed(other) if share == 1 else None


def _by_one_root(one, other):
    """Both asides by one root, and this root; None if no root tells both."""
    (_, aside, root), (_, other_aside, other_root) = one, other
    if root == 0:
        return aside, other_aside, other_root
    # An other root of 0 makes a step of 0, and its aside is none already.
    step = root_of(quotient_of(other_root, root))
    return None if step is None else (aside, point_times(other_aside, step), root)
