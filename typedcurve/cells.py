"""Cells: a frame with its lock, and two pins, which keep an end on the line of all points with x = h."""

from typedcurve.checks import is_list
from typedcurve.demands import need_from_nothing, need_number, need_point, need_side, need_within
from typedcurve.errors import BadNumber, Misfit
from typedcurve.locks import lock_for
from typedcurve.machine_parts import bars_kept, beads_kept, pins_kept
from typedcurve.points import dot, gone_on, halfway, leftward, point_sum, point_times, square_off, way_from
from typedcurve.ratios import HALF, difference_of, is_less, negative_of, product_of, quotient_of, sum_of
from typedcurve.spots import point_spot, spot_of

MANY_OF_CELL = 9
LESSER_SHARE = (3, 2)
GREATER_SHARE = (5, 2)


def cell_of(h, reach):
    """The points of Z and U, and both lengths of the frame, the lesser one first."""
    _need_line(h, reach)
    across = _across(reach)
    return ((difference_of(h, across), 0), (difference_of(h, product_of(HALF, across)), 0),
            product_of(LESSER_SHARE, across), product_of(GREATER_SHARE, across))


def cell_places(h, reach, v, sides):
    """The places of the joints of a cell, the end standing at v, its corners and its key at the told sides."""
    _need_line(h, reach)
    need_point(v, "v")
    _need_sides(sides, "sides")
    if difference_of(v[0], h) != 0:
        raise Misfit("line")
    if is_less(product_of(reach, reach), dot(v, v)):
        raise Misfit("reach")
    z, u, s, t = cell_of(h, reach)
    way = way_from(z, v)
    across = _across(reach)
    q = gone_on(z, v, quotient_of(product_of(across, across), dot(way, way)))
    g = way_from(z, point_sum(v, q))
    corners = _corner_places(z, v, q, across, sides[0])
    key = _key_place(z, v, q, lock_for(s, t)[0], sides[1])
    return corners + tuple([point_spot(point) for point in (z, g, q, u)]) + (key,)


def cell_parts(first, v, h, reach):
    """The pins, the bars and the beads of a cell whose joints are numbered from first on."""
    need_within(first, 1, None, "first")
    need_within(v, 0, first - 1, "v")
    z_point, u_point, s, t = cell_of(h, reach)
    longer, shorter = lock_for(s, t)
    o, a, c, b, z, g, q, u, key = [first + at for at in range(MANY_OF_CELL)]
    bars = [
        (o, a, s), (a, c, t), (c, b, s), (o, b, t), (q, u, product_of(HALF, _across(reach))),
        (key, z, longer), (key, g, longer), (key, v, shorter), (key, q, shorter)]
    beads = [(v, a, c, HALF), (z, o, a, HALF), (g, c, b, HALF), (q, o, b, HALF)]
    many = first + MANY_OF_CELL
    return pins_kept([(z, z_point), (u, u_point)], many), bars_kept(bars, many), beads_kept(beads, many)


def _need_line(h, reach):
    need_number(h, "h")
    need_from_nothing(reach, "reach")


def _need_sides(value, part):
    if not is_list(value) or len(value) != 2:
        raise BadNumber(part)
    need_side(value[0], part)
    need_side(value[1], part)


def _across(reach):
    """T: how far the line is from Z."""
    return sum_of(reach, 1)


def _corner_places(z, v, q, across, side):
    """The places of O', A', C' and B', corners of a frame with the midpoints Z, the end and Q."""
    way = way_from(z, v)
    along_square, across_square = dot(way, way), product_of(across, across)
    # A' is 3/4 T away from Z and 5/4 T from the end, which tells how far along the way it stands.
    share = quotient_of(difference_of(across_square, along_square), product_of(2, along_square))
    far = quotient_of(product_of((9, 16), across_square), along_square)
    root = difference_of(far, product_of(share, share))
    o, a = gone_on(z, v, share), gone_on(z, v, negative_of(share))
    c, b = gone_on(a, v, 2), gone_on(o, q, 2)
    left = point_times(leftward(way), side)
    right = point_times(left, -1)
    return spot_of(o, left, root), spot_of(a, right, root), spot_of(c, left, root), spot_of(b, right, root)


def _key_place(z, v, q, longer, side):
    """The place of the key, as far from Z as its longer bars tell."""
    way = way_from(z, v)
    middle = halfway(v, q)
    rest = difference_of(product_of(longer, longer), square_off(z, middle))
    return spot_of(middle, point_times(leftward(way), side), quotient_of(rest, dot(way, way)))
