"""Arithmetic of values that are known to be points; what is passed is not checked here."""

from typedcurve.papers import fixed
from typedcurve.ratios import HALF, difference_of, negative_of, product_of, sum_of

ORIGIN = (0, 0)


def point_sum(one, other):
    """Both points, added."""
    return sum_of(one[0], other[0]), sum_of(one[1], other[1])


def way_from(one, other):
    """What leads from one point to the other."""
    return difference_of(other[0], one[0]), difference_of(other[1], one[1])


def point_times(point, number):
    """A point times a number."""
    return product_of(number, point[0]), product_of(number, point[1])


def gone_on(one, other, share):
    """The point at one, gone on by share times the way to the other."""
    return point_sum(one, point_times(way_from(one, other), share))


def halfway(one, other):
    """The point in the middle of both."""
    return gone_on(one, other, HALF)


def leftward(point):
    """The point turned by a quarter to the left."""
    x, y = fixed(point)
    return negative_of(y), x


def dot(one, other):
    """Both x multiplied and both y multiplied, added: 0 if the points are upright to one another."""
    return sum_of(product_of(one[0], other[0]), product_of(one[1], other[1]))


def square_off(one, other):
    """The square of the distance of two points."""
    way = way_from(one, other)
    return dot(way, way)
