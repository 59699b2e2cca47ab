"""[8]: poses, what they do not meet, and their other sides."""

import time
import unittest
from fractions import Fraction
from itertools import product

from helpers import NO_MACHINES, NO_PLACES, Case, number, some_turns
from typedcurve.errors import BadMachine, BadNumber, BadPlace
from typedcurve.machines import Machine
from typedcurve.papers import Denial, Paper
from typedcurve.places import between, moved_place, place_of, stands_off
from typedcurve.poses import Right, Torn, judged, kin_of, measured, mirrored_aside, shows_pose, turned_over

LEFT, RIGHT, TOP, MIDDLE = ((0, 0), (0, 0), 0), ((4, 0), (0, 0), 0), ((2, 0), (0, 1), 5), ((1, 0), (0, 1), (5, 4))
BELOW = ((2, 0), (0, -1), 5)
POSE = [LEFT, RIGHT, TOP, MIDDLE]
NO_JOINTS = [4, -1, 10 ** 40, True, False, None, 1.0, "1", (1, 2), (1,), [], object()]


def tent():
    return Machine(4, [(1, (4, 0)), (0, [0, 0])], [(2, 0, 3), (1, 2, 3)], [(3, 2, 0, (1, 2))], 3)


def ladder():
    """A machine of five joints whose right poses have two kinds of roots."""
    bars = [(0, 1, 2), (0, 2, 3), (1, 2, 3), (0, 3, 2), (1, 3, 2)]
    beads = [(4, 2, 3, (1, 2)), (5, 0, 2, (1, 3)), (6, 3, 1, (-1, 2))]
    return Machine(7, [(0, (0, 0)), (1, (2, 0))], bars, beads, 4)


def ladder_pose(upper=1, lower=1):
    two, three = place_of((1, 0), (0, upper), 8), place_of((1, 0), (0, lower), 3)
    return [((0, 0), (0, 0), 0), ((2, 0), (0, 0), 0), two, three, None,
            between(((0, 0), (0, 0), 0), two, (1, 3)), between(three, ((2, 0), (0, 0), 0), (-1, 2))]


class TestExamples(Case):
    def test_judged(self):
        machine, pose = tent(), list(POSE)
        self.same(
            [bool(judged(machine, pose)), judged(machine, pose).word, judged(machine=machine, places=pose).parts,
             shows_pose(machine, pose), shows_pose(machine, pose[:3]), shows_pose(value=None, machine=machine)],
            [True, 'right', (), True, False, False])
        self.same(
            [judged(machine, [LEFT, RIGHT, ((2, 0), (0, 1), 6), TOP]).parts,
            judged(machine, [LEFT, RIGHT, TOP, TOP]).parts,
             judged(machine, [TOP, RIGHT, TOP, LEFT]) == Torn("pin", 0)],
            [('bar', 0), ('bead', 0), True])

    def test_measured(self):
        self.same(
            [measured(tent(), POSE), measured(tent(), [((0, 0), (1, 0), 2), RIGHT, TOP, LEFT])], [(9, 9), (None, 9)])

    def test_kin_and_sides(self):
        machine, pose = tent(), list(POSE)
        self.same(
            [kin_of(pose, 2), kin_of(pose, joint=0), turned_over(pose, 3)[2:],
             judged(machine, turned_over(pose, 2)) == Right(), judged(machine, mirrored_aside(pose, 2)).parts],
            [(2, 3), (), (((2, 0), (0, -1), 5), ((1, 0), (0, -1), (5, 4))), True, ('bead', 0)])

    def test_error(self):
        self.refuses(BadPlace("places"), judged, tent(), [LEFT, RIGHT, TOP])


class TestPapers(Case):
    def test_right(self):
        paper = Right()
        self.same([paper.word, paper.parts, bool(paper)], ["right", (), True])
        self.same([paper == Right(), paper == Paper("right"), Paper("right") == paper], [True, False, False])
        self.assertTrue(isinstance(paper, Paper) and not isinstance(paper, Denial))

    def test_torn(self):
        paper = Torn("bar", 3)
        self.same([paper.word, paper.parts, paper.kind, paper.at, bool(paper)], ["torn", ("bar", 3), "bar", 3, False])
        self.same([paper == Torn(at=3, kind="bar"), paper == Torn("bar", 2), paper == Torn("pin", 3)],
            [True, False, False])
        self.same([paper == Denial("torn", "bar", 3), Denial("torn", "bar", 3) == paper, paper == Right()], [False] * 3)
        self.assertTrue(isinstance(paper, Denial))
        self.same([Torn([1, [2]], None).kind, Torn([1, [2]], None).parts], [(1, (2,)), ((1, (2,)), None)])


class TestJudged(Case):
    def test_right_poses(self):
        for upper, lower in product((1, -1), repeat=2):
            pose = ladder_pose(upper, lower)
            machine = Machine(7, ladder().pins, ladder().bars, ladder().beads[1:], 4)
            # The middle of joints whose roots are not kin has no place.
            pose[4] = LEFT
            self.same([judged(machine, pose) == Right(), shows_pose(machine, tuple(pose))], [True, True])
            self.same(judged(ladder(), pose) == Torn("bead", 0), True)
            self.same([judged(ladder(), pose).kind, shows_pose(ladder(), pose)], ["bead", False])

    def test_without_anything(self):
        for place in (LEFT, TOP):
            self.same(judged(Machine(1, [], [], [], 0), [place]) == Right(), True)
            self.same(shows_pose(Machine(2, [], [], [], 0), (place, TOP)), True)

    def test_lists_for_tuples(self):
        pose = [[[0, 0], [0, 0], 0], [[4, 0], [0, 0], 0], [[2, 0], [0, 1], 5], [[1, 0], [0, 1], [5, 4]]]
        self.same([judged(tent(), pose) == Right(), shows_pose(tent(), pose), measured(tent(), pose)],
            [True, True, (9, 9)])

    def test_pins(self):
        machine = Machine(3, [(0, (0, 0)), (1, ((1, 2), 3)), (2, (1, 1))], [], [], 0)
        right = [LEFT, (((1, 2), 3), (0, 0), 0), ((1, 1), (0, 0), 0)]
        self.same(judged(machine, right) == Right(), True)
        for at in range(3):
            for bad in (RIGHT, TOP, (right[at][0], (1, 0), 2)):
                pose = right[:at] + [bad] + right[at + 1:]
                self.same(judged(machine, pose).parts, ("pin", at))
                self.same(shows_pose(machine, pose), False)

    def test_bars(self):
        machine = Machine(4, [], [(0, 1, 3), (0, 2, (5, 2)), (1, 3, 4)], [], 0)
        pose = [LEFT, ((2, 0), (0, 1), 5), (((3, 2), 2), (0, 0), 0), ((6, 0), (0, 1), 5)]
        self.same(judged(machine, pose) == Right(), True)
        self.same(judged(machine, pose[:2] + [((1, 2), (0, 0), 0), pose[3]]).parts, ("bar", 1))
        self.same(judged(machine, pose[:3] + [((6, 0), (0, -1), 5)]).parts, ("bar", 2))
        self.same(judged(machine, pose[:3] + [((6, 0), (0, 1), 6)]).parts, ("bar", 2))
        self.same(judged(machine, [pose[0], ((2, 0), (1, 0), 5)] + pose[2:]).parts, ("bar", 0))

    def test_beads(self):
        machine = Machine(4, [], [], [(1, 0, 2, (1, 2)), (2, 0, 3, -1), (3, 1, 2, 0)], 0)
        pose = [LEFT, LEFT, LEFT, LEFT]
        self.same(judged(machine, pose) == Right(), True)
        self.same(judged(machine, [LEFT, RIGHT, LEFT, LEFT]).parts, ("bead", 0))
        self.same(judged(machine, [LEFT, RIGHT, ((8, 0), (0, 0), 0), LEFT]).parts, ("bead", 1))
        self.same(judged(machine, [LEFT, RIGHT, ((8, 0), (0, 0), 0), ((-8, 0), (0, 0), 0)]).parts, ("bead", 2))

    def test_a_bead_where_no_place_tells_it(self):
        one, other = ((0, 0), (1, 0), 2), ((0, 0), (1, 0), 3)
        for joint in (one, other, LEFT, TOP):
            self.same(judged(Machine(3, [], [], [(2, 0, 1, (1, 2))], 0), [one, other, joint]) == Torn("bead", 0), True)
        self.same(judged(Machine(3, [], [], [(2, 0, 1, 1)], 0), [one, other, other]) == Right(), True)
        self.same(judged(Machine(3, [], [], [(2, 0, 1, 0)], 0), [one, other, other]) == Torn("bead", 0), True)

    def test_the_first_of_several(self):
        machine = Machine(4, [(0, (0, 0)), (2, (1, 1))], [(0, 1, 1), (2, 3, 1)], [(1, 0, 3, 2), (2, 1, 3, 1)], 0)
        stages = [
            ([RIGHT, RIGHT, RIGHT, RIGHT], ("pin", 0)), ([LEFT, RIGHT, RIGHT, RIGHT], ("pin", 1)),
            ([LEFT, RIGHT, ((1, 1), (0, 0), 0), RIGHT], ("bar", 0)),
            ([LEFT, ((1, 0), (0, 0), 0), ((1, 1), (0, 0), 0), RIGHT], ("bar", 1)),
            ([LEFT, ((1, 0), (0, 0), 0), ((1, 1), (0, 0), 0), ((1, 2), (0, 0), 0)], ("bead", 0)),
            ([LEFT, ((0, 1), (0, 0), 0), ((1, 1), (0, 0), 0), ((0, 1), (0, 0), 0)], ("bead", 0)),
        ]
        for pose, parts in stages:
            self.same(judged(machine, pose) == Torn(*parts), True)

    def test_shows_any_value(self):
        for value in (None, True, 0, "", "0123", {}, {0: LEFT}, 0.5, object(), POSE[:3], POSE + [LEFT], [POSE], LEFT,
                Right()):
            self.same(shows_pose(tent(), value), False)
        for bad in NO_PLACES:
            for at in range(4):
                self.same(shows_pose(tent(), POSE[:at] + [bad] + POSE[at + 1:]), False)
        self.same([shows_pose(tent(), tuple(POSE)), shows_pose(tent(), POSE[:3] + [TOP])], [True, False])

    def test_turned_and_moved(self):
        machine = Machine(4, [], tent().bars, tent().beads, 3)
        for turn in some_turns():
            pose = [moved_place(place, turn, ((1, 2), -3)) for place in POSE]
            self.same(judged(machine, pose) == Right(), True)
            self.same(measured(machine, pose), (9, 9))


class TestMeasured(Case):
    def test_each_bar(self):
        pose = ladder_pose()
        pose[4] = LEFT
        self.same(measured(ladder(), pose), (4, 9, 4, 9, 4))
        pose[2] = ((0, 0), (1, 1), 2)
        squares = tuple(stands_off(pose[one], pose[other]) for one, other, _ in ladder().bars)
        self.same([measured(machine=ladder(), places=tuple(pose)), squares], [(4, 4, 4, None, 4)] * 2)
        self.same(measured(Machine(2, [], [], [], 0), [LEFT, LEFT]), ())

    def test_a_fraction(self):
        self.same(measured(Machine(2, [], [(0, 1, 1)], [], 0), [LEFT, (((1, 2), (1, 3)), (0, 0), 0)]), ((13, 36),))


class TestSides(Case):
    def test_kin(self):
        pose = [((0, 0), (1, 0), root) if root else LEFT for root in (2, 0, 8, 3, (1, 2), (4, 3), 0, (9, 2), 6)]
        self.same([kin_of(pose, joint) for joint in range(9)],
            [(0, 2, 4, 7), (), (0, 2, 4, 7), (3, 5), (0, 2, 4, 7), (3, 5), (), (0, 2, 4, 7), (8,)])
        self.same([kin_of([LEFT], 0), kin_of((TOP,), 0)], [(), (0,)])

    def test_mirrored_aside(self):
        pose = [LEFT, ((1, 2), (-3, 2), (1, 2)), [[[1, 2], 0], [3, -2], [1, 2]]]
        self.same(mirrored_aside(pose, 0), (LEFT, pose[1], (((1, 2), 0), (3, -2), (1, 2))))
        self.same(mirrored_aside(pose, 1), (LEFT, ((1, 2), (3, -2), (1, 2)), (((1, 2), 0), (3, -2), (1, 2))))
        self.same(mirrored_aside(places=pose, joint=2), (LEFT, pose[1], (((1, 2), 0), (-3, 2), (1, 2))))
        self.same(mirrored_aside(mirrored_aside(POSE, 2), 2), tuple(POSE))

    def test_turned_over(self):
        pose = [((0, 0), (1, 2), 2), LEFT, ((1, 0), (0, -1), 8), ((0, 0), (1, 0), 3)]
        over = (((0, 0), (-1, -2), 2), LEFT, ((1, 0), (0, 1), 8), ((0, 0), (1, 0), 3))
        self.same([turned_over(pose, 0), turned_over(places=tuple(pose), joint=2)], [over, over])
        self.same(turned_over(pose, 1), tuple(pose))
        self.same(turned_over(pose, 3), tuple(pose[:3]) + (((0, 0), (-1, 0), 3),))
        self.same(turned_over(turned_over(pose, 0), 2), tuple(pose))

    def test_right_poses_stay_right(self):
        machine = Machine(7, ladder().pins, ladder().bars, ladder().beads[1:], 4)
        for upper, lower in product((1, -1), repeat=2):
            pose = ladder_pose(upper, lower)
            pose[4] = LEFT
            for joint in range(7):
                over = turned_over(pose, joint)
                self.same(judged(machine, over) == Right(), True)
                self.same(measured(machine, over), measured(machine, pose))
            self.same(judged(machine, mirrored_aside(pose, 2)).parts, ("bead", 0))
            self.same(judged(machine, mirrored_aside(pose, 3)).parts, ("bead", 1))

    def test_what_was_passed_stays(self):
        pose = [[[0, 0], [1, 2], 2], [[1, [1, 2]], [0, -1], [8, 9]]]
        kin_of(pose, 0), mirrored_aside(pose, 0), turned_over(pose, 0)
        judged(Machine(2, [], [(0, 1, 1)], [], 0), pose), measured(Machine(2, [], [(0, 1, 1)], [], 0), pose)
        self.same(pose, [[[0, 0], [1, 2], 2], [[1, [1, 2]], [0, -1], [8, 9]]])


class TestErrors(Case):
    def test_machines(self):
        for bad in NO_MACHINES:
            for call in (judged, measured, shows_pose):
                self.refuses(BadMachine("machine"), call, bad, None)

    def test_places(self):
        for value in (None, True, 0, "", "0123", {}, {0: LEFT}, 0.5, object(), LEFT, Right()):
            for call in (judged, measured):
                self.refuses(BadPlace("places"), call, tent(), value)
            for call in (kin_of, mirrored_aside, turned_over):
                self.refuses(BadPlace("places"), call, value, None)
        for value in ([], (), POSE[:3], POSE + [LEFT]):
            for call in (judged, measured):
                self.refuses(BadPlace("places"), call, tent(), value)
        for bad in NO_PLACES:
            for at in range(4):
                pose = POSE[:at] + [bad] + POSE[at + 1:]
                for call in (judged, measured):
                    self.refuses(BadPlace("places"), call, tent(), pose)
                for call in (kin_of, mirrored_aside, turned_over):
                    self.refuses(BadPlace("places"), call, pose, None)

    def test_no_places(self):
        for call in (kin_of, mirrored_aside, turned_over):
            self.refuses(BadPlace("places"), call, [], 0)
            self.refuses(BadPlace("places"), call, (), 0)

    def test_joints(self):
        for bad in NO_JOINTS:
            for call in (kin_of, mirrored_aside, turned_over):
                self.refuses(BadNumber("joint"), call, POSE, bad)


class TestGreatPoses(Case):
    def test_in_a_short_time(self):
        start = time.perf_counter()
        bars = [(at, at + 1, (3, 7)) for at in range(3999)]
        machine = Machine(4000, [], bars, [(at, at + 1, at + 2, -1) for at in range(3998)], 0)
        places = [((number(Fraction(3 * at, 7)), 0), (0, 1), number(Fraction(7, 4))) for at in range(4000)]
        self.same(judged(machine, places) == Right(), True)
        self.same(len(kin_of(places, 0)), 4000)
        self.same(judged(machine, turned_over(places, 5)) == Right(), True)
        self.same(judged(machine, mirrored_aside(places, 3999)).parts, ("bar", 3998))
        self.assertLess(time.perf_counter() - start, 10)


if __name__ == "__main__":
    unittest.main()
