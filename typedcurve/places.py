"""Places: where a joint stands, a point and, perhaps, the root of a number aside."""

from math import gcd

from typedcurve.checks import is_integer, is_list, is_number, is_point
from typedcurve.demands import need_from_nothing, need_number, need_point, need_turn
from typedcurve.errors import BadPlace
from typedcurve.numbers import root_of
from typedcurve.papers import fixed
from typedcurve.points import point_sum
from typedcurve.ratios import product_of, sign_in
from typedcurve.spots import is_kin, spot_between, spot_of, square_apart
from typedcurve.turns import turned


def is_place(value):
    """Whether any value is a place, in its one form."""
    if not is_list(value) or len(value) != 3:
        return False
    point, aside, root = value
    if not is_point(point) or not _is_pair_of_integers(aside) or not is_number(root):
        return False
    shared = gcd(aside[0], aside[1])
    if shared == 0:
        return root == 0
    return shared == 1 and sign_in(root) == 1 and root_of(root) is None


def need_place(value, part):
    """Raises BadPlace for what is no place."""
    if not is_place(value):
        raise BadPlace(part)


def place_of(point, aside, root):
    """The place of the spot that a point, any point as aside, and any root from 0 on tell."""
    need_point(point, "point")
    need_point(aside, "aside")
    need_from_nothing(root, "root")
    return spot_of(point, aside, root)


def as_point(place):
    """The point of a place that is its point, None for any other place."""
    need_place(place, "place")
    point, _, root = fixed(place)
    return point if root == 0 else None


def stands_off(one, other):
    """The square of the distance of two places if it is a number, None otherwise."""
    _need_both(one, other)
    return square_apart(one, other)


def is_far(one, other, length):
    """Whether two places are just so far apart."""
    _need_both(one, other)
    need_from_nothing(length, "length")
    return square_apart(one, other) == product_of(length, length)


def between(one, other, share):
    """The place that a bead of this share has, None if no place tells it."""
    _need_both(one, other)
    need_number(share, "share")
    return spot_between(one, other, share)


def are_kin(one, other):
    """Whether the roots of two places are kin."""
    _need_both(one, other)
    return is_kin(one, other)


def moved_place(place, turn, point):
    """A place turned about (0, 0), then moved by a point."""
    need_place(place, "place")
    need_turn(turn, "turn")
    need_point(point, "point")
    old_point, aside, root = place
    return spot_of(point_sum(turned(old_point, turn), point), turned(aside, turn), root)


def _is_pair_of_integers(value):
    return is_list(value) and len(value) == 2 and is_integer(value[0]) and is_integer(value[1])


def _need_both(one, other):
    need_place(one, "one")
    need_place(other, "other")
