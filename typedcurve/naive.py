"""The naive machine, without the locks of its reflectors: how it can stand, and where it strays."""

from typedcurve.built_places import places_ahead, places_behind
from typedcurve.builds import FIRST_REFLECTOR, machine_for, need_room, plan_let, rays_of
from typedcurve.checks import is_list
from typedcurve.demands import need_above_nothing, need_turn
from typedcurve.errors import BadWord, Misfit
from typedcurve.joins import without
from typedcurve.papers import fixed
from typedcurve.plans import ARM_WORDS, Plan, counts
from typedcurve.points import point_sum, point_times
from typedcurve.polys import constant_poly, need_poly, poly_sum, value
from typedcurve.ratios import negative_of
from typedcurve.ray_turns import BOTH_CROSSED, sum_by, turns_flipped, turns_of
from typedcurve.reflectors import MANY_OF_REFLECTOR, WAYS, corners_by
from typedcurve.spots import point_spot
from typedcurve.stands import Off, Stands
from typedcurve.words import FIRST_WORDS, is_word, made_of

# The joints of a reflector that are left are D, C, R, A and B; its midpoints and keys are not.
MANY_LEFT = 5
SINGLE_FLIPS = (("crossed", "parallel"), ("parallel", "crossed"), ("parallel", "parallel"))


def naive_machine(poly, radius):
    """The built machine without the locks of its reflectors."""
    machine = machine_for(poly, radius)
    gone = []
    for at in range(len(plan_let(poly, radius).words)):
        first = FIRST_REFLECTOR + MANY_OF_REFLECTOR * at
        gone = gone + list(range(first + MANY_LEFT, first + MANY_OF_REFLECTOR))
    return without(machine, gone)


def naive_rays(poly, radius):
    """Pairs of a word and the end of its ray, in the order of the built machine's rays."""
    return rays_of(plan_let(poly, radius).words, MANY_LEFT)


def flipped_turns(poly, radius, a, b, flips):
    """Pairs of a word and the turn of its ray, with some flips."""
    plan, frames = _need_flipped(poly, radius, a, b, flips)
    turns = turns_of(plan.words, a, b, frames)
    return tuple([(word, turns[word]) for word in FIRST_WORDS + plan.words])


def naive_pen(poly, radius, a, b, flips):
    """The point at which the pen stands with some flips."""
    plan, frames = _need_flipped(poly, radius, a, b, flips)
    return _pen_by(radius, turns_of(plan.words, a, b, frames))


def naive_stands(poly, radius, a, b, flips):
    """Whether it stands with some flips: Stands with all places, otherwise Off with what its end would be off."""
    plan, frames = _need_flipped(poly, radius, a, b, flips)
    turns = turns_of(plan.words, a, b, frames)
    by = sum_by(plan, turns)
    if by != 0:
        return Off(by)
    places = places_ahead(turns)
    for word in plan.words:
        x, y = made_of(word)
        big, small = frames.get(word, BOTH_CROSSED)
        new = turns[word]
        d, c, end = corners_by(turns[x], turns[y], big, small)
        places = places + tuple([point_spot(point) for point in (d, c, end, new, point_times(new, 2))])
    return Stands(places + places_behind(plan, radius, turns))


def lured(poly, radius, a, b, flips):
    """The Poly with another constant whose naive machine stands there with these flips."""
    plan, frames = _need_flipped(poly, radius, a, b, flips)
    by = sum_by(plan, turns_of(plan.words, a, b, frames))
    return poly_sum(poly, constant_poly(negative_of(by)))


def strays(poly, radius, a, b):
    """The single flips with which it stands off the curve, each with the pen and the value there."""
    _need_standing(poly, radius, a, b)
    plan = plan_let(poly, radius)
    turns = turns_of(plan.words, a, b, {})
    found = []
    for word in plan.words:
        for frames in SINGLE_FLIPS:
            flipped = turns_flipped(plan.words, turns, (word, frames))
            pen = _pen_by(radius, flipped)
            by = value(poly, pen) if sum_by(plan, flipped) == 0 else 0
            if by != 0:
                found.append(((word,) + frames, pen, by))
    return tuple(found)


def _need_standing(poly, radius, a, b):
    need_poly(poly, "poly")
    need_above_nothing(radius, "radius")
    need_turn(a, "a")
    need_turn(b, "b")


def _need_flipped(poly, radius, a, b, flips):
    """The plan, and how the flips tell the frames of some words."""
    _need_standing(poly, radius, a, b)
    if not _are_flips(flips):
        raise BadWord("flips")
    frames = {fixed(word): (big, small) for word, big, small in flips}
    plan = Plan(poly, radius)
    if not all([word in plan.words for word in frames]):
        raise Misfit("flips")
    need_room(counts(plan)[0])
    return plan, frames


def _are_flips(flips):
    if not is_list(flips) or not all([_is_flip(flip) for flip in flips]):
        return False
    return len({fixed(flip[0]) for flip in flips}) == len(flips)


def _is_flip(flip):
    if not is_list(flip) or len(flip) != 3 or not is_word(flip[0]):
        return False
    return all([isinstance(way, str) and way in WAYS for way in flip[1:]])


def _pen_by(radius, turns):
    return point_times(point_sum(turns[ARM_WORDS[0]], turns[ARM_WORDS[1]]), radius)
