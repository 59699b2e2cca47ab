"""Where built machines stand, and in which pose."""

from typedcurve.built_places import places_ahead, places_behind
from typedcurve.builds import plan_let
from typedcurve.demands import need_above_nothing, need_turn
from typedcurve.papers import Denial, Paper
from typedcurve.points import point_sum, point_times
from typedcurve.polys import need_poly, value
from typedcurve.ray_turns import turns_of
from typedcurve.reflectors import reflector_places
from typedcurve.turns import doubled
from typedcurve.words import made_of


class Stands(Paper):
    """A machine stands, with a place for each of its joints."""

    def __init__(self, places):
        Paper.__init__(self, "stands", places)
        self.places = self.parts[0]


class Off(Denial):
    """A machine does not stand: its last end would be off its line by so much."""

    def __init__(self, by):
        Denial.__init__(self, "off", by)
        self.by = self.parts[0]


def pen_at(radius, a, b):
    """Where the pen stands if the rays of both arms stand at 2 a and 2 b."""
    need_above_nothing(radius, "radius")
    need_turn(a, "a")
    need_turn(b, "b")
    return point_times(point_sum(doubled(a), doubled(b)), radius)


def stands(poly, radius, a, b):
    """Whether the built machine stands at a and b: Stands with all places, otherwise Off with f at the pen."""
    need_poly(poly, "poly")
    pen = pen_at(radius, a, b)
    plan = plan_let(poly, radius)
    by = value(poly, pen)
    if by != 0:
        return Off(by)
    turns = turns_of(plan.words, a, b, {})
    places = places_ahead(turns)
    for word in plan.words:
        x, y = made_of(word)
        places = places + reflector_places(turns[x], turns[y], 1)
    return Stands(places + places_behind(plan, radius, turns))
