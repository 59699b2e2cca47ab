"""[11]: arms and carriers."""

import unittest
from fractions import Fraction
from itertools import product
from random import Random

from helpers import (
    NO_LENGTHS, NO_NUMBERS, NO_POINTS, NO_SIDES, NO_TURNS, Case, fraction, fractions, number, some_turns, square)
from typedcurve.carriers import (
    arm_parts, arm_points, carrier_length, carrier_parts, carrier_places)
from typedcurve.errors import BadNumber, BadPoint, BadTurn, Misfit
from typedcurve.machines import Machine
from typedcurve.places import is_place, stands_off
from typedcurve.poses import Right, judged

O = (0, 0)
POINTS = [(0, 0), (2, 0), (0, 1), ((1, 2), (-3, 4)), [[-5, 3], 2], (-1, (1, 9)), (3, -4), ((1, 10 ** 20), 0)]
NO_INTEGERS = [True, False, None, 4.0, "4", (9, 2), (4, 1), [7], (), {}, object()]


def fix(point):
    return tuple(number(part) for part in fractions(point))


def total(*points):
    """Points, added."""
    return tuple(number(sum(parts)) for parts in zip(*[fractions(point) for point in points]))


def times(point, many):
    return tuple(number(fraction(many) * part) for part in fractions(point))


class TestExamples(Case):
    def test_carriers(self):
        self.same([carrier_length([]), carrier_length([3, (-1, 2)])], [1, (9, 2)])
        self.same(
            carrier_places((2, 0), (0, 1), 3, 1),
            (((1, 0), (0, 1), 8), ((1, 1), (0, 1), 8), ((2, 1), (0, 0), 0), (((1, 2), 0), (0, 1), 2),
             (((1, 2), 1), (0, 1), 2), (((3, 2), 0), (0, 1), 2), (((3, 2), 1), (0, 1), 2)))
        self.same(
            [carrier_places((2, 0), (0, 1), 3, -1)[0], carrier_places((0, 0), (1, 0), 3, 1)[:2],
             carrier_places([6, 8], [0, 1], 13, 1)[0]],
            [((1, 0), (0, -1), 8), (((0, 3), (0, 0), 0), ((1, 3), (0, 0), 0)), (((-33, 5), (56, 5)), (0, 0), 0)])
        self.refuses(Misfit("reach"), carrier_places, (2, 0), (0, 1), (1, 2), 1)

    def test_parts(self):
        self.same(
            carrier_parts(43, 42, 15, 1, 3)[0],
            ((0, 44, 3), (42, 44, 3), (42, 46, 1), (43, 45, 3), (44, 45, 1), (45, 46, 3), (47, 48, 1), (49, 50, 1)))
        self.same(
            carrier_parts(43, 42, 15, -1, 3)[1],
            ((43, 0, 15, (-1, 4)), (47, 0, 44, (1, 2)), (48, 43, 45, (1, 2)), (49, 42, 44, (1, 2)),
            (50, 45, 46, (1, 2))))
        self.refuses(BadNumber("v"), carrier_parts, 43, 43, 15, 1, 3)

    def test_arms(self):
        self.same(
            arm_points((5, 6), (1, 0), ((-7, 25), (24, 25))),
            (((5, 6), 0), ((-7, 30), (4, 5)), ((3, 5), (4, 5)), ((5, 12), 0), ((11, 60), (4, 5))))
        self.same(
            arm_parts(37, 15, 27, 1),
            (((37, 39, 1), (38, 39, 1), (40, 41, 1)),
             ((37, 0, 15, (1, 4)), (38, 0, 27, (1, 4)), (40, 0, 37, (1, 2)), (41, 38, 39, (1, 2)))))


class TestLength(Case):
    def test_without_their_signs(self):
        self.same([carrier_length(()), carrier_length([0, 0]), carrier_length(numbers=[-1])], [1, 1, 2])
        self.same(carrier_length([(1, 2), (-1, 3), [-7, 6], 5]), 8)
        random = Random(1)
        for many in (1, 5, 30):
            numbers = [number(Fraction(random.randint(-99, 99), random.randint(1, 9))) for _ in range(many)]
            self.same(carrier_length(numbers), number(1 + sum(abs(part) for part in fractions(numbers))))

    def test_errors(self):
        for bad in (None, True, 0, 7, "", "12", {}, {1: 2}, {1}, 0.5, object()):
            self.refuses(BadNumber("numbers"), carrier_length, bad)
        for bad in NO_NUMBERS:
            self.refuses(BadNumber("numbers"), carrier_length, [bad])
            self.refuses(BadNumber("numbers"), carrier_length, (1, bad, 2))


class TestPlaces(Case):
    def check(self, v, w, length, side):
        places = carrier_places(v, w, length, side)
        m, moved, end, to_m, to_moved, v_to_m, moved_to_end = places
        self.same([is_place(place) for place in places], [True] * 7)
        self.same(end, (total(v, w), (0, 0), 0))
        origin, spot_v, spot_w = [(fix(point), (0, 0), 0) for point in (O, v, w)]
        far = number(fraction(length) ** 2)
        for one, other in ((origin, m), (spot_w, moved), (spot_v, m), (moved, end)):
            self.same(stands_off(one, other), far)
        size = number(square(w, O))
        for one, other in ((m, moved), (spot_v, end), (to_m, to_moved), (v_to_m, moved_to_end)):
            self.same(stands_off(one, other), size)
        machine = Machine(
            10, [(0, O)], [], [(7, 0, 3, (1, 2)), (6, 1, 4, (1, 2)), (8, 2, 3, (1, 2)), (9, 4, 5, (1, 2))], 0)
        pose = [origin, spot_w, spot_v, m, moved, end, to_moved, to_m, v_to_m, moved_to_end]
        self.same(judged(machine, pose) == Right(), True)
        return places

    def side_of(self, v, place):
        """1 if a place is to the left of the way from O to v, -1 to the right, 0 on the line."""
        (x, y), (p, q), (i, j) = fractions(v), fractions(place[0]), place[1]
        along = (x * q - y * p) if place[2] == 0 else (x * j - y * i)
        return (along > 0) - (along < 0)

    def test_on_either_side(self):
        for v, w, length, side in product(POINTS, POINTS, (3, (11, 2), [10, 3], 10 ** 20), (1, -1)):
            places = self.check(v, w, length, side)
            if fix(v) == O:
                self.same(places[0], ((0, number(side * fraction(length))), (0, 0), 0))
            else:
                # M has a point as its place where it can be told so.
                middle = times(v, (1, 2))
                self.same(places[0][2] == 0 or places[0][0] == middle, True)
                self.same(self.side_of(v, places[0]), side)

    def test_just_two_lengths_away(self):
        for v, length in (((6, 0), 3), ((0, -4), 2), ((3, 4), (5, 2)), (((3, 5), (-4, 5)), (1, 2)),
                ([-9, 12], [15, 2])):
            for side in (1, -1):
                places = self.check(v, (1, (1, 3)), length, side)
                self.same(places[0], (times(v, (1, 2)), (0, 0), 0))
            less = number(fraction(length) - Fraction(1, 10 ** 30))
            self.refuses(Misfit("reach"), carrier_places, v, (0, 1), less, 1)
            more = number(fraction(length) + Fraction(1, 10 ** 30))
            self.same([self.side_of(v, self.check(v, (0, 1), more, side)[0]) for side in (1, -1)], [1, -1])

    def test_beyond(self):
        for v, length in (((2, 0), (1, 2)), ((3, 4), (12, 5)), ((0, 1), (1, 3)), ((10 ** 20, 1), 5 * 10 ** 19)):
            self.refuses(Misfit("reach"), carrier_places, v, (0, 0), length, -1)

    def test_whole_places(self):
        # With v = (6, 8) and the length 13 all joints stand at points, though aside.
        for side in (1, -1):
            places = self.check((6, 8), (1, 2), 13, side)
            self.same([place[1:] for place in places], [((0, 0), 0)] * 7)
            self.same(places[0][0], total((3, 4), times(((-4, 5), (3, 5)), 12 * side)))

    def test_by_name(self):
        self.same(carrier_places(side=-1, length=[3, 1][0], w=[0, 1], v=[2, 0]), carrier_places((2, 0), (0, 1), 3, -1))

    def test_errors(self):
        for bad in NO_POINTS:
            self.refuses(BadPoint("v"), carrier_places, bad, bad, None, None)
            self.refuses(BadPoint("w"), carrier_places, O, bad, None, None)
        for bad in NO_LENGTHS:
            self.refuses(BadNumber("length"), carrier_places, (99, 0), O, bad, None)
        for bad in NO_SIDES:
            self.refuses(BadNumber("side"), carrier_places, (99, 0), O, 1, bad)


class TestCarrierParts(Case):
    def test_what_is_told(self):
        for first, v, ray in ((43, 42, 15), (43, 15, 42), (2, 1, 1), (10 ** 6, 999999, 1), (5, 4, 1)):
            for c, length in ((1, 3), (-1, 3), ((7, 3), (1, 2)), ((-2, 5), 10 ** 20), ([-9, 4], [5, 2]), (8, 1)):
                size, far = number(abs(fraction(c))), number(fraction(length))
                w, m, moved, end, to_m, to_moved, v_to_m, moved_to_end = range(first, first + 8)
                bars = [
                    (0, m, far), (w, moved, far), (v, m, far), (moved, end, far), (m, moved, size), (v, end, size),
                    (to_m, to_moved, size), (v_to_m, moved_to_end, size)]
                beads = [
                    (w, 0, ray, number(fraction(c) / 4)), (to_m, 0, m, (1, 2)), (to_moved, w, moved, (1, 2)),
                    (v_to_m, v, m, (1, 2)), (moved_to_end, moved, end, (1, 2))]
                got = carrier_parts(first, v, ray, c, length)
                self.same(got, (tuple(sorted(bars)), tuple(sorted(beads))))
                self.same(carrier_parts(length=length, number=c, ray=ray, v=v, first=first), got)

    def test_as_a_machine_has_them(self):
        for first, v, ray in ((43, 42, 15), (2, 1, 1), (3992, 1, 3991)):
            bars, beads = carrier_parts(first, v, ray, (-3, 2), (7, 2))
            machine = Machine(first + 8, [], bars[::-1], beads[::-1], 0)
            self.same([machine.bars, machine.beads], [bars, beads])

    def test_right_poses(self):
        for c, turn, v, side in product((1, -2, (3, 7), (-5, 2)), some_turns()[::3], POINTS[:6], (1, -1)):
            length = 5
            bars, beads = carrier_parts(3, 2, 1, c, length)
            machine = Machine(11, [(0, O), (1, times(turn, 4)), (2, v)], bars, beads, 0)
            w = times(turn, c)
            pose = [(O, (0, 0), 0), (times(turn, 4), (0, 0), 0), (fix(v), (0, 0), 0), (w, (0, 0), 0)]
            pose = pose + list(carrier_places(v, w, length, side))
            self.same(judged(machine, pose) == Right(), True)
            self.same(pose[6], (total(v, w), (0, 0), 0))

    def test_errors(self):
        for bad in NO_INTEGERS + [1, 0, -2, -10 ** 40]:
            self.refuses(BadNumber("first"), carrier_parts, bad, None, None, None, None)
        for bad in NO_INTEGERS + [0, -1, 43, 44, 10 ** 40]:
            self.refuses(BadNumber("v"), carrier_parts, 43, bad, None, None, None)
            self.refuses(BadNumber("ray"), carrier_parts, 43, 42, bad, None, None)
        for bad in NO_NUMBERS + [0]:
            self.refuses(BadNumber("number"), carrier_parts, 43, 42, 1, bad, None)
        for bad in NO_LENGTHS:
            self.refuses(BadNumber("length"), carrier_parts, 43, 42, 1, 1, bad)


class TestArms(Case):
    def test_points(self):
        for radius, one, other in product((1, (5, 6), [7, 2], 10 ** 20), some_turns(), some_turns()):
            elbow, other_elbow = times(one, radius), times(other, radius)
            pen = total(elbow, other_elbow)
            self.same(
                arm_points(radius, one, other),
                (elbow, other_elbow, pen, times(elbow, (1, 2)), times(total(other_elbow, pen), (1, 2))))
        self.same(arm_points(other=[0, 1], one=[[3, 5], [4, 5]], radius=[1, 2])[2], ((3, 10), (9, 10)))

    def test_parts(self):
        for first, one_ray, other_ray in ((37, 15, 27), (37, 27, 15), (37, 36, 1), (2, 1, 1), (10 ** 6, 3, 999999)):
            for radius in (1, 4, (5, 6), [9, 2], (1, 10 ** 20)):
                far, share = number(fraction(radius)), number(fraction(radius) / 4)
                bars = ((first, first + 2, far), (first + 1, first + 2, far), (first + 3, first + 4, far))
                beads = (
                    (first, 0, one_ray, share), (first + 1, 0, other_ray, share), (first + 3, 0, first, (1, 2)),
                    (first + 4, first + 1, first + 2, (1, 2)))
                self.same(arm_parts(first, one_ray, other_ray, radius), (bars, beads))
        self.same(arm_parts(radius=1, other_ray=27, one_ray=15, first=37), arm_parts(37, 15, 27, 1))

    def test_right_poses(self):
        for radius, one, other in product((1, (5, 6), 3), some_turns(), some_turns()):
            bars, beads = arm_parts(3, 1, 2, radius)
            machine = Machine(8, [(0, O), (1, times(one, 4)), (2, times(other, 4))], bars, beads, 5)
            self.same([machine.bars, machine.beads], [bars, beads])
            points = (O, times(one, 4), times(other, 4)) + arm_points(radius, one, other)
            self.same(judged(machine, [(point, (0, 0), 0) for point in points]) == Right(), True)

    def test_errors(self):
        for bad in NO_LENGTHS:
            self.refuses(BadNumber("radius"), arm_points, bad, None, None)
            self.refuses(BadNumber("radius"), arm_parts, 37, 1, 36, bad)
        for bad in NO_TURNS:
            self.refuses(BadTurn("one"), arm_points, 1, bad, bad)
            self.refuses(BadTurn("other"), arm_points, 1, (1, 0), bad)
        for bad in NO_INTEGERS + [1, 0, -2, -10 ** 40]:
            self.refuses(BadNumber("first"), arm_parts, bad, None, None, None)
        for bad in NO_INTEGERS + [0, -1, 37, 38, 10 ** 40]:
            self.refuses(BadNumber("one_ray"), arm_parts, 37, bad, None, None)
            self.refuses(BadNumber("other_ray"), arm_parts, 37, 36, bad, None)


if __name__ == "__main__":
    unittest.main()
