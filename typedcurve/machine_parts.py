"""Pins, bars and beads: whether any values are such, and the one form in which a machine keeps them."""

from typedcurve.checks import is_list, is_number, is_point, is_within
from typedcurve.papers import fixed
from typedcurve.ratios import difference_of, sign_in


def are_joints(values, many):
    """Whether all of some values are unlike joints below many."""
    if not all([is_within(value, 0, many - 1) for value in values]):
        return False
    return len(set(values)) == len(values)


def pins_kept(value, many):
    """The pins that a list tells, ascending; None if any value is no list of pins."""
    if not is_list(value) or not all([_is_pin(pin, many) for pin in value]):
        return None
    return _ascending([fixed(pin) for pin in value], 1)


def bars_kept(value, many):
    """The bars that a list tells, ascending; None if any value is no list of bars."""
    if not is_list(value) or not all([_is_bar(bar, many) for bar in value]):
        return None
    return _ascending([bar_kept(bar) for bar in value], 2)


def beads_kept(value, many):
    """The beads that a list tells, ascending; None if any value is no list of beads."""
    if not is_list(value) or not all([_is_bead(bead, many) for bead in value]):
        return None
    return _ascending([bead_kept(bead) for bead in value], 3)


def bar_kept(bar):
    """A bar with its lesser joint ahead."""
    one, other, length = fixed(bar)
    return min(one, other), max(one, other), length


def bead_kept(bead):
    """A bead with the lesser one of its two other joints ahead."""
    joint, one, other, share = fixed(bead)
    if one < other:
        return joint, one, other, share
    return joint, other, one, difference_of(1, share)


def _is_pin(value, many):
    return is_list(value) and len(value) == 2 and are_joints(value[:1], many) and is_point(value[1])


def _is_bar(value, many):
    if not is_list(value) or len(value) != 3 or not are_joints(value[:2], many):
        return False
    return is_number(value[2]) and sign_in(value[2]) == 1


def _is_bead(value, many):
    return is_list(value) and len(value) == 4 and are_joints(value[:3], many) and is_number(value[3])


def _ascending(rows, named):
    """Rows that name so many joints, ascending; None if two of them name the same ones."""
    if len({row[:named] for row in rows}) < len(rows):
        return None
    # As no two name the same joints, no number behind the joints is ever compared.
    return tuple(sorted(rows))
