"""Frames of four bars: their corners O, A, C, B, one behind the other, and their midpoints."""

from typedcurve.demands import need_above_nothing, need_point
from typedcurve.errors import Misfit
from typedcurve.points import dot, gone_on, halfway, leftward, point_sum, square_off, way_from
from typedcurve.ratios import QUARTER, is_less, product_of, quotient_of


def mirrored(point, one, other):
    """A point mirrored at the line through one and other."""
    need_point(point, "point")
    need_point(one, "one")
    need_point(other, "other")
    along = way_from(one, other)
    if along == (0, 0):
        raise Misfit("line")
    share = quotient_of(dot(way_from(one, point), along), dot(along, along))
    return gone_on(point, gone_on(one, other, share), 2)


def corners(s, t, o, a, b):
    """The points at which C can stand: parallel, then crossed; just one where the frame is flat."""
    need_above_nothing(s, "s")
    need_above_nothing(t, "t")
    need_point(o, "o")
    need_point(a, "a")
    need_point(b, "b")
    if not is_less(s, t) or square_off(o, a) != product_of(s, s) or square_off(o, b) != product_of(t, t):
        raise Misfit("lengths")
    parallel = parallel_corner(o, a, b)
    return (parallel,) if is_flat(o, a, b) else (parallel, mirrored(parallel, a, b))


def is_flat(o, a, b):
    """Whether A stands on the line through O and B."""
    need_point(o, "o")
    need_point(a, "a")
    need_point(b, "b")
    along = way_from(o, b)
    if along == (0, 0):
        raise Misfit("line")
    return dot(leftward(along), way_from(o, a)) == 0


def midpoints(o, a, c, b):
    """The midpoints of O A, A C, C B and B O."""
    need_four(o, a, c, b)
    return halfway(o, a), halfway(a, c), halfway(c, b), halfway(b, o)


def spread(o, a, c, b):
    """The squares of half the distances of the midpoints of O A and C B, and of A C and B O."""
    first, second, third, fourth = midpoints(o, a, c, b)
    return product_of(QUARTER, square_off(first, third)), product_of(QUARTER, square_off(second, fourth))


def need_four(o, a, c, b):
    """Raises BadPoint for the first one of four corners that is no point."""
    need_point(o, "o")
    need_point(a, "a")
    need_point(c, "c")
    need_point(b, "b")


def parallel_corner(o, a, b):
    """The corner C of the parallel frame with these three corners."""
    return point_sum(a, way_from(o, b))


def crossed_corner(o, a, b):
    """The corner C of the crossed frame with these three corners, which are a frame's."""
    return mirrored(parallel_corner(o, a, b), a, b)
