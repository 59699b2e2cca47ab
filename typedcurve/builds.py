"""The built machine of a polynomial and a radius: its joints, numbered one behind the other."""

from typedcurve.carriers import MANY_OF_ARMS, MANY_OF_CARRIER, arm_parts, carrier_length, carrier_parts
from typedcurve.cells import cell_parts
from typedcurve.errors import TooMany
from typedcurve.machines import Machine
from typedcurve.plans import ARM_WORDS, Plan, counts
from typedcurve.points import ORIGIN, point_times
from typedcurve.ratios import HALF, QUARTER, negative_of, product_of
from typedcurve.reflectors import MANY_OF_REFLECTOR, reflector_parts
from typedcurve.words import DELTA, FIRST_WORDS, made_of

EAST_END = (4, 0)
FIRST_REFLECTOR = 13


def machine_for(poly, radius):
    """The built machine, its pen the third joint of the arms."""
    plan = plan_let(poly, radius)
    rays = dict(rays_of(plan.words, MANY_OF_REFLECTOR))
    arms = _arms_at(plan)
    held = _parts_of_reflectors(plan.words, rays)
    held = held + [arm_parts(arms, rays[ARM_WORDS[0]], rays[ARM_WORDS[1]], radius)]
    held = held + _parts_of_terms(plan, rays)
    pins, bars, beads = _parts_of_first_rays()
    for more_bars, more_beads in held:
        bars, beads = bars + list(more_bars), beads + list(more_beads)
    more_pins, more_bars, more_beads = cell_parts(
        _cell_at(plan), _end_of(plan), negative_of(plan.constant), plan.reach)
    pins, bars, beads = pins + list(more_pins), bars + list(more_bars), beads + list(more_beads)
    return Machine(counts(plan)[0], pins, bars, beads, arms + 2)


def rays_in(poly, radius):
    """Pairs of a word and the end of its ray, of all rays in order."""
    return rays_of(plan_let(poly, radius).words, MANY_OF_REFLECTOR)


def end_in(poly, radius):
    """The joint of the last end."""
    return _end_of(plan_let(poly, radius))


def plan_let(poly, radius):
    """The plan of a machine that is not too great."""
    plan = Plan(poly, radius)
    need_room(counts(plan)[0])
    return plan


def need_room(many):
    """Raises TooMany for more joints than a machine may have."""
    if many > Machine.MOST:
        raise TooMany("joints", Machine.MOST)


def rays_of(words, many):
    """Pairs of a word and the end of its ray, the reflectors of the words having so many joints each."""
    first = [(word, 1 + 3 * at) for at, word in enumerate(FIRST_WORDS)]
    return tuple(first + [(word, FIRST_REFLECTOR + many * at + 2) for at, word in enumerate(words)])


def _arms_at(plan):
    """The first joint of the arms."""
    return FIRST_REFLECTOR + MANY_OF_REFLECTOR * len(plan.words)


def _term_at(plan, at):
    """The first joint of a term: its bead W."""
    behind_arms = _arms_at(plan) + MANY_OF_ARMS
    return behind_arms if at == 0 else behind_arms + 1 + MANY_OF_CARRIER * (at - 1)


def _end_at(plan, at):
    """The end behind a term."""
    return _term_at(plan, at) if at == 0 else _term_at(plan, at) + 3


def _end_of(plan):
    """The last end, O without terms."""
    return _end_at(plan, len(plan.terms) - 1) if plan.terms else 0


def _cell_at(plan):
    """The first joint of the cell, behind those of all terms."""
    return _term_at(plan, len(plan.terms))


def _parts_of_first_rays():
    pins = [(0, ORIGIN), (1, EAST_END), (10, point_times(DELTA, 4))]
    beads = []
    for _, end in rays_of((), 0):
        beads = beads + [(end + 1, 0, end, QUARTER), (end + 2, 0, end, HALF)]
    return pins, [(0, 4, 4), (0, 7, 4)], beads


def _parts_of_reflectors(words, rays):
    found = []
    for word in words:
        x, y = made_of(word)
        found.append(reflector_parts(rays[word] - 2, rays[x], rays[y]))
    return found


def _parts_of_terms(plan, rays):
    numbers = [number for _, number in plan.terms]
    found = []
    for at, (word, number) in enumerate(plan.terms):
        first = _term_at(plan, at)
        if at == 0:
            found.append(((), ((first, 0, rays[word], product_of(QUARTER, number)),)))
        else:
            length = carrier_length(numbers[:at + 1])
            found.append(carrier_parts(first, _end_at(plan, at - 1), rays[word], number, length))
    return found
