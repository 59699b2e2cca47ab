"""Machines made of others: with other numbers, joined, without some joints, an island alone."""

from typedcurve.checks import is_list
from typedcurve.errors import BadNumber, Misfit, TooMany
from typedcurve.machine_parts import are_joints, bar_kept, bead_kept
from typedcurve.machines import Machine, island_at, need_joint, need_machine


def renamed(machine, order):
    """The machine in which each joint j is the joint order[j]."""
    need_machine(machine, "machine")
    if not _are_unlike(order, machine.many) or len(order) != machine.many:
        raise BadNumber("order")
    return _with_names(machine, {joint: name for joint, name in enumerate(order)}, machine.pen)


def joined(one, other, pairs):
    """The machine of two, a joint of one and a joint of other being the same for each pair."""
    need_machine(one, "one")
    need_machine(other, "other")
    if not _are_pairs(pairs, one.many, other.many):
        raise BadNumber("pairs")
    names = _names_behind(one, other, pairs)
    pins = _merged(one.pins, _pins_named(other, names), 1, "pins")
    bars = _merged(one.bars, [bar_kept(bar) for bar in _bars_named(other, names)], 2, "bars")
    beads = _merged(one.beads, [bead_kept(bead) for bead in _beads_named(other, names)], 3, "beads")
    many = one.many + other.many - len(pairs)
    if many > Machine.MOST:
        raise TooMany("joints", Machine.MOST)
    return Machine(many, pins, bars, beads, one.pen)


def without(machine, joints):
    """The machine without some joints, and without all that is at them."""
    need_machine(machine, "machine")
    if not _are_unlike(joints, machine.many):
        raise BadNumber("joints")
    if machine.pen in joints:
        raise Misfit("pen")
    gone = set(joints)
    left = [joint for joint in range(machine.many) if joint not in gone]
    return _with_names(machine, _anew(left), machine.pen)


def island_of(machine, joint):
    """The machine of the island of a joint, which is its pen."""
    need_machine(machine, "machine")
    need_joint(machine, joint)
    return _with_names(machine, _anew(island_at(machine, joint)), joint)


def _are_unlike(value, many):
    return is_list(value) and are_joints(value, many)


def _are_pairs(value, many, other_many):
    if not is_list(value) or not all([is_list(pair) and len(pair) == 2 for pair in value]):
        return False
    return are_joints([pair[0] for pair in value], many) and are_joints([pair[1] for pair in value], other_many)


def _anew(joints):
    """The numbers of some joints, counted in their order."""
    return {joint: at for at, joint in enumerate(joints)}


def _names_behind(one, other, pairs):
    """The number of each joint of other in the machine in which it is joined to one."""
    names = {theirs: ours for ours, theirs in pairs}
    behind = one.many
    for joint in range(other.many):
        if joint not in names:
            names[joint] = behind
            behind += 1
    return names


def _with_names(machine, names, pen):
    """The machine of all joints that have a name, which is their number in it."""
    return Machine(len(names), _pins_named(machine, names), _bars_named(machine, names),
                   _beads_named(machine, names), names[pen])


def _pins_named(machine, names):
    return [(names[joint], point) for joint, point in machine.pins if joint in names]


def _bars_named(machine, names):
    return [(names[one], names[other], length) for one, other, length in machine.bars
            if one in names and other in names]


def _beads_named(machine, names):
    return [(names[joint], names[one], names[other], share) for joint, one, other, share in machine.beads
            if joint in names and one in names and other in names]


def _merged(rows, more, named, part):
    """All rows, those for the same joints, so many ahead in each row, being one if they are alike."""
    table = {row[:named]: row for row in rows}
    for row in more:
        if table.setdefault(row[:named], row) != row:
            raise Misfit(part)
    return list(table.values())
