"""Poses: a place for each joint of a machine, and whether they are right."""

from typedcurve.checks import is_list
from typedcurve.demands import need_within
from typedcurve.errors import BadPlace
from typedcurve.machines import need_machine
from typedcurve.papers import Denial, Paper, fixed
from typedcurve.places import is_place
from typedcurve.ratios import product_of
from typedcurve.spots import is_kin, other_side, point_spot, spot_between, square_apart


class Right(Paper):
    """A pose is right."""

    def __init__(self):
        Paper.__init__(self, "right")


class Torn(Denial):
    """A pose does not meet a pin, a bar or a bead of its machine, at this index of its kind."""

    def __init__(self, kind, at):
        Denial.__init__(self, "torn", kind, at)
        self.kind, self.at = self.parts


def judged(machine, places):
    """Right if the pose is right, otherwise the Torn of the first thing that it does not meet."""
    need_machine(machine, "machine")
    spots = _need_pose(machine, places)
    for at, (joint, point) in enumerate(machine.pins):
        if spots[joint] != point_spot(point):
            return Torn("pin", at)
    for at, (one, other, length) in enumerate(machine.bars):
        if square_apart(spots[one], spots[other]) != product_of(length, length):
            return Torn("bar", at)
    for at, (joint, one, other, share) in enumerate(machine.beads):
        if spots[joint] != spot_between(spots[one], spots[other], share):
            return Torn("bead", at)
    return Right()


def shows_pose(machine, value):
    """Whether any value is a right pose of the machine."""
    need_machine(machine, "machine")
    return _is_pose(machine, value) and bool(judged(machine, value))


def measured(machine, places):
    """For each bar the square of the distance of its joints if it is a number, otherwise None."""
    need_machine(machine, "machine")
    spots = _need_pose(machine, places)
    return tuple([square_apart(spots[one], spots[other]) for one, other, _ in machine.bars])


def kin_of(places, joint):
    """The kin of a joint, ascending."""
    spots = _need_joint_of(places, joint)
    return _kin_among(spots, joint)


def mirrored_aside(places, joint):
    """The pose in which this joint stands at its other side."""
    spots = _need_joint_of(places, joint)
    return _with_others(spots, (joint,))


def turned_over(places, joint):
    """The pose in which all kin of this joint stand at their other sides."""
    spots = _need_joint_of(places, joint)
    return _with_others(spots, _kin_among(spots, joint))


def _is_pose(machine, value):
    return is_list(value) and len(value) == machine.many and all([is_place(place) for place in value])


def _need_pose(machine, places):
    if not _is_pose(machine, places):
        raise BadPlace("places")
    return fixed(places)


def _need_joint_of(places, joint):
    if not is_list(places) or not places or not all([is_place(place) for place in places]):
        raise BadPlace("places")
    need_within(joint, 0, len(places) - 1, "joint")
    return fixed(places)


def _kin_among(spots, joint):
    return tuple([at for at, spot in enumerate(spots) if is_kin(spots[joint], spot)])


def _with_others(spots, joints):
    chosen = set(joints)
    return tuple([other_side(spot) if at in chosen else spot for at, spot in enumerate(spots)])
