"""Locks of frames: at which corners the key has room, and where it stands."""

from typedcurve.demands import need_above_nothing, need_side
from typedcurve.errors import Misfit
from typedcurve.frames import corners, is_flat, midpoints, need_four, parallel_corner, spread
from typedcurve.papers import fixed
from typedcurve.points import halfway, leftward, point_times, square_off, way_from
from typedcurve.ratios import HALF, QUARTER, difference_of, is_less, product_of, quotient_of, sign_in, sum_of
from typedcurve.spots import spot_of

EIGHTH = (1, 8)


def lock_for(s, t):
    """The lengths of the lock that the built machine has in its frames of these lengths."""
    need_above_nothing(s, "s")
    need_above_nothing(t, "t")
    _need_less(s, t)
    return (product_of(EIGHTH, sum_of(product_of(5, t), product_of(3, s))),
            product_of(EIGHTH, sum_of(product_of(3, t), product_of(5, s))))


def lock_kind(s, t, m, n):
    """At which corners of frames of these lengths the key has room."""
    _need_lengths(s, t, m, n)
    _need_less(s, t)
    if not _is_crossed_lock(s, t, m, n):
        return "none"
    half = product_of(HALF, t)
    if is_less(half, m):
        return "crossed"
    # The least x of a crossed frame is always less than m, so a lesser lock has room somewhere.
    return "part" if is_less(m, half) else "both"


def locked_corners(s, t, m, n, o, a, b):
    """The corners at which C can stand and the key has room: parallel, then crossed."""
    _need_lengths(s, t, m, n)
    found = corners(s, t, o, a, b)
    if not _is_crossed_lock(s, t, m, n):
        return ()
    square = product_of(m, m)
    return tuple([c for c in found if _has_room(o, a, c, b, square)])


def key_place(o, a, c, b, m, side):
    """The place of the key of a frame, on the told side of the row of midpoints."""
    need_four(o, a, c, b)
    need_above_nothing(m, "m")
    need_side(side, "side")
    lesser, greater = square_off(o, a), square_off(o, b)
    if lesser != square_off(c, b) or greater != square_off(a, c):
        raise Misfit("frame")
    if sign_in(lesser) == 0 or not is_less(lesser, greater):
        raise Misfit("frame")
    square = product_of(m, m)
    if not is_less(_apart(lesser, greater), square) or not _has_room(o, a, c, b, square):
        raise Misfit("lock")
    first, _, third, _ = midpoints(o, a, c, b)
    across = leftward(way_from(first, third))
    x_square, _ = spread(o, a, c, b)
    share = quotient_of(difference_of(square, x_square), product_of(4, x_square))
    return spot_of(halfway(first, third), point_times(across, side), share)


def _need_lengths(s, t, m, n):
    need_above_nothing(s, "s")
    need_above_nothing(t, "t")
    need_above_nothing(m, "m")
    need_above_nothing(n, "n")


def _need_less(s, t):
    if not is_less(s, t):
        raise Misfit("lengths")


def _apart(lesser, greater):
    """By what the squares of a lock's lengths must differ, those of the frame's being told."""
    return product_of(QUARTER, difference_of(greater, lesser))


def _is_crossed_lock(s, t, m, n):
    lock = difference_of(product_of(m, m), product_of(n, n))
    return lock == _apart(product_of(s, s), product_of(t, t))


def _has_room(o, a, c, b, square):
    """Whether the key has room by a lock that fits the lengths, its first one having this square."""
    x_square, _ = spread(o, a, c, b)
    if fixed(c) == parallel_corner(o, a, b) and not is_flat(o, a, b):
        return square == x_square
    return not is_less(square, x_square)
