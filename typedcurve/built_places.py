"""The places of all joints of a machine but those of its reflectors, when its rays stand at some turns."""

from typedcurve.carriers import arm_points, carrier_length, carrier_places
from typedcurve.cells import cell_places
from typedcurve.plans import ARM_WORDS
from typedcurve.points import ORIGIN, point_sum, point_times
from typedcurve.ratios import negative_of
from typedcurve.spots import point_spot
from typedcurve.words import FIRST_WORDS


def places_ahead(turns):
    """The places of O and of the first rays, which stand ahead of the reflectors."""
    points = [ORIGIN]
    for word in FIRST_WORDS:
        points = points + [point_times(turns[word], far) for far in (4, 1, 2)]
    return tuple([point_spot(point) for point in points])


def places_behind(plan, radius, turns):
    """The places of the arms, the terms and the cell; the last end must stand on its line."""
    arms = arm_points(radius, turns[ARM_WORDS[0]], turns[ARM_WORDS[1]])
    end, terms = _end_and_terms(plan, turns)
    cell = cell_places(negative_of(plan.constant), plan.reach, end, (1, 1))
    return tuple([point_spot(point) for point in arms]) + terms + cell


def _end_and_terms(plan, turns):
    """The point of the last end, and the places of the joints of all terms."""
    numbers = [number for _, number in plan.terms]
    end = ORIGIN
    places = ()
    for at, (word, number) in enumerate(plan.terms):
        w = point_times(turns[word], number)
        places = places + (point_spot(w),)
        if at > 0:
            places = places + carrier_places(end, w, carrier_length(numbers[:at + 1]), 1)
        end = point_sum(end, w)
    return end, places
