"""Reflectors: two frames of four bars that hold a new ray at 2 x - y, the rays x and y being given."""

from typedcurve.demands import need_side, need_turn, need_within
from typedcurve.frames import crossed_corner, mirrored, parallel_corner
from typedcurve.locks import key_place, lock_for
from typedcurve.machine_parts import bars_kept, beads_kept
from typedcurve.machines import Machine
from typedcurve.points import ORIGIN, gone_on, halfway, point_times, way_from
from typedcurve.ratios import HALF, QUARTER
from typedcurve.spots import point_spot
from typedcurve.turns import added, back_turn, doubled

WAYS = ("crossed", "parallel")
MANY_OF_REFLECTOR = 12


def reflected(x, y):
    """The turn 2 x - y."""
    _need_rays(x, y)
    return added(doubled(x), back_turn(y))


def reflector_points(x, y):
    """The points of the joints 0 to 9 where both frames are crossed."""
    _need_rays(x, y)
    b_x = point_times(x, 2)
    c = crossed_corner(ORIGIN, y, b_x)
    d = gone_on(b_x, c, 4)
    new = reflected(x, y)
    end = point_times(new, 4)
    return (d, c, end, new, point_times(new, 2),
            halfway(ORIGIN, y), halfway(y, c), halfway(b_x, c), halfway(b_x, d), halfway(d, end))


def reflector_places(x, y, side):
    """The places of all twelve joints where both frames are crossed, both keys at the told side."""
    _need_rays(x, y)
    need_side(side, "side")
    points = reflector_points(x, y)
    b_x = point_times(x, 2)
    d, c, end = points[:3]
    big = key_place(ORIGIN, b_x, d, end, lock_for(2, 4)[0], side)
    small = key_place(ORIGIN, y, c, b_x, lock_for(1, 2)[0], side)
    return tuple([point_spot(point) for point in points]) + (big, small)


def candidates(x, y):
    """How both frames can stand without locks, and at which turn the new ray stands then."""
    _need_rays(x, y)
    found = []
    for big in WAYS:
        for small in WAYS:
            end = corners_by(x, y, big, small)[2]
            found.append(((big, small), point_times(end, QUARTER)))
    return tuple(found)


def reflector_parts(first, x_ray, y_ray):
    """The bars and the beads of a reflector whose joints are numbered from first on."""
    need_within(first, 4, Machine.MOST, "first")
    need_within(x_ray, 1, first - 3, "x_ray")
    need_within(y_ray, 1, first - 3, "y_ray")
    a_x, b_x, a_y = x_ray + 1, x_ray + 2, y_ray + 1
    d, c, end, a, b, of_a_y, to_c, of_c, of_d, to_end, big, small = [first + at for at in range(MANY_OF_REFLECTOR)]
    bars = [(d, b_x, 4), (d, end, 2), (c, a_y, 2), (end, 0, 4)]
    bars = bars + _lock_bars(big, lock_for(2, 4), (a_x, to_end), (of_d, b))
    bars = bars + _lock_bars(small, lock_for(1, 2), (of_a_y, of_c), (to_c, a_x))
    beads = [
        (c, b_x, d, QUARTER), (a, 0, end, QUARTER), (b, 0, end, HALF), (of_a_y, 0, a_y, HALF), (to_c, a_y, c, HALF),
        (of_c, b_x, c, HALF), (of_d, b_x, d, HALF), (to_end, d, end, HALF)]
    return bars_kept(bars, first + MANY_OF_REFLECTOR), beads_kept(beads, first + MANY_OF_REFLECTOR)


def corners_by(x, y, big, small):
    """The points of D, C and R, the frames standing as they are told to."""
    b_x = point_times(x, 2)
    c = crossed_corner(ORIGIN, y, b_x) if small == "crossed" else parallel_corner(ORIGIN, y, b_x)
    d = gone_on(b_x, c, 4)
    end = way_from(b_x, d)
    return d, c, mirrored(end, ORIGIN, d) if big == "crossed" else end


def _need_rays(x, y):
    need_turn(x, "x")
    need_turn(y, "y")


def _lock_bars(key, lock, outer, inner):
    """The bars of a lock, from its key to the midpoints of both rows."""
    longer, shorter = lock
    return [(key, joint, longer) for joint in outer] + [(key, joint, shorter) for joint in inner]
