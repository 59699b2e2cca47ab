"""Arms, which carry the pen, and carriers, which lay waves end to end."""

from typedcurve.checks import is_list, is_number
from typedcurve.demands import need_above_nothing, need_number, need_point, need_side, need_turn, need_within
from typedcurve.errors import BadNumber, Misfit
from typedcurve.machine_parts import bars_kept, beads_kept
from typedcurve.points import ORIGIN, dot, halfway, leftward, point_sum, point_times
from typedcurve.ratios import HALF, QUARTER, difference_of, is_less, product_of, quotient_of, sign_in, size_of, sum_of
from typedcurve.spots import point_spot, spot_between, spot_of

MANY_OF_CARRIER = 8
MANY_OF_ARMS = 5


def carrier_length(numbers):
    """The length of a carrier: 1, and the numbers of all terms up to its own one, without their signs."""
    if not is_list(numbers) or not all([is_number(number) for number in numbers]):
        raise BadNumber("numbers")
    total = 1
    for number in numbers:
        total = sum_of(total, size_of(number))
    return total


def carrier_places(v, w, length, side):
    """The places of the joints of a carrier but W, the end standing at v, W at w."""
    need_point(v, "v")
    need_point(w, "w")
    need_above_nothing(length, "length")
    need_side(side, "side")
    if is_less(product_of(4, product_of(length, length)), dot(v, v)):
        raise Misfit("reach")
    start = _start_place(v, length, side)
    point, aside, root = start
    moved = spot_of(point_sum(point, w), aside, root)
    end = point_spot(point_sum(v, w))
    sides = [(point_spot(ORIGIN), start), (point_spot(w), moved), (point_spot(v), start), (moved, end)]
    return (start, moved, end) + tuple([spot_between(one, other, HALF) for one, other in sides])


def carrier_parts(first, v, ray, number, length):
    """The bars and the beads of a carrier whose joints are numbered from first on."""
    need_within(first, 2, None, "first")
    need_within(v, 1, first - 1, "v")
    need_within(ray, 1, first - 1, "ray")
    need_number(number, "number")
    if sign_in(number) == 0:
        raise BadNumber("number")
    need_above_nothing(length, "length")
    w, start, moved, end, to_start, to_moved, v_to_start, moved_to_end = [first + at for at in range(MANY_OF_CARRIER)]
    long_bars = [(0, start, length), (w, moved, length), (v, start, length), (moved, end, length)]
    pairs = [(start, moved), (v, end), (to_start, to_moved), (v_to_start, moved_to_end)]
    beads = [
        (w, 0, ray, product_of(QUARTER, number)), (to_start, 0, start, HALF), (to_moved, w, moved, HALF),
        (v_to_start, v, start, HALF), (moved_to_end, moved, end, HALF)]
    bars = long_bars + [(one, other, size_of(number)) for one, other in pairs]
    return bars_kept(bars, first + MANY_OF_CARRIER), beads_kept(beads, first + MANY_OF_CARRIER)


def arm_points(radius, one, other):
    """The points of the joints of arms whose rays stand at one and other."""
    need_above_nothing(radius, "radius")
    need_turn(one, "one")
    need_turn(other, "other")
    elbow, other_elbow = point_times(one, radius), point_times(other, radius)
    pen = point_sum(elbow, other_elbow)
    return elbow, other_elbow, pen, halfway(ORIGIN, elbow), halfway(other_elbow, pen)


def arm_parts(first, one_ray, other_ray, radius):
    """The bars and the beads of arms whose joints are numbered from first on."""
    need_within(first, 2, None, "first")
    need_within(one_ray, 1, first - 1, "one_ray")
    need_within(other_ray, 1, first - 1, "other_ray")
    need_above_nothing(radius, "radius")
    elbow, other_elbow, pen, to_elbow, to_pen = [first + at for at in range(MANY_OF_ARMS)]
    bars = [(elbow, pen, radius), (other_elbow, pen, radius), (to_elbow, to_pen, radius)]
    share = product_of(QUARTER, radius)
    beads = [
        (elbow, 0, one_ray, share), (other_elbow, 0, other_ray, share), (to_elbow, 0, elbow, HALF),
        (to_pen, other_elbow, pen, HALF)]
    return bars_kept(bars, first + MANY_OF_ARMS), beads_kept(beads, first + MANY_OF_ARMS)


def _start_place(v, length, side):
    """The place of M, as far from O as from v."""
    square = dot(v, v)
    if sign_in(square) == 0:
        return point_spot((0, product_of(side, length)))
    share = quotient_of(product_of(length, length), square)
    quarter_less = difference_of(share, QUARTER)
    return spot_of(halfway(ORIGIN, v), point_times(leftward(v), side), quarter_less)
