"""The way on which the machine goes on from where it stands."""

from math import gcd

from typedcurve.errors import Misfit
from typedcurve.papers import Denial, Paper
from typedcurve.points import dot, leftward, point_sum, point_times
from typedcurve.polys import need_poly, slope, value
from typedcurve.ratios import parts_of, product_of
from typedcurve.stands import pen_at
from typedcurve.turns import doubled


class Way(Paper):
    """The machine goes on: by how much both angles grow, and by how much the pen's x and y."""

    def __init__(self, by_a, by_b, x, y):
        Paper.__init__(self, "way", by_a, by_b, x, y)
        self.by_a, self.by_b, self.x, self.y = self.parts


class Knot(Denial):
    """There is not just one way."""

    def __init__(self):
        Denial.__init__(self, "knot")


def way_at(poly, radius, a, b):
    """The way at which the machine goes on from a and b, or Knot."""
    need_poly(poly, "poly")
    pen = pen_at(radius, a, b)
    if value(poly, pen) != 0:
        raise Misfit("pose")
    growth = (value(slope(poly, "x"), pen), value(slope(poly, "y"), pen))
    # While the angle of an arm grows, its end goes to the left of the arm.
    one_way, other_way = [point_times(leftward(doubled(turn)), product_of(2, radius)) for turn in (a, b)]
    by_a, by_b = _balance(dot(growth, one_way), dot(growth, other_way))
    if (by_a, by_b) == (0, 0):
        return Knot()
    x, y = point_sum(point_times(one_way, by_a), point_times(other_way, by_b))
    return Way(by_a, by_b, x, y)


def _balance(one, other):
    """The integers by_a and by_b with one by_a + other by_b = 0, in their one form; 0 twice if both are 0."""
    (one_above, one_below), (other_above, other_below) = parts_of(one), parts_of(other)
    by_a, by_b = other_above * one_below, -one_above * other_below
    shared = gcd(by_a, by_b)
    if shared == 0:
        return 0, 0
    if by_a < 0 or (by_a == 0 and by_b < 0):
        shared = -shared
    return by_a // shared, by_b // shared
