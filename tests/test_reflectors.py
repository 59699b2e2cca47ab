"""[10]: reflectors."""

import unittest
from fractions import Fraction
from itertools import product
from random import Random

from helpers import (
    NO_SIDES, NO_TURNS, Case, fraction, fractions, number, some_turns, square)
from typedcurve.errors import BadNumber, BadTurn
from typedcurve.frames import midpoints, mirrored
from typedcurve.machines import Machine
from typedcurve.places import is_place, stands_off
from typedcurve.poses import Right, judged
from typedcurve.reflectors import candidates, reflected, reflector_parts, reflector_places, reflector_points
from typedcurve.turns import added, back_turn, by_half, doubled

O, EAST, NORTH = (0, 0), (1, 0), (0, 1)
NO_INTEGERS = [True, False, None, 4.0, "4", (9, 2), (4, 1), [7], (), {}, object()]


def pairs_of_turns():
    """Turns alike, opposite, a quarter away, and drawn ones."""
    random = Random(6)
    found = [(x, y) for x in some_turns() for y in (x, added(x, (-1, 0)), added(x, NORTH), added(x, (0, -1)))]
    for _ in range(40):
        found.append(tuple(
            by_half(number(Fraction(random.randint(-9, 9), random.randint(1, 9)))) for _ in range(2)))
    return found + [(by_half((10 ** 20, 10 ** 20 + 1)), by_half((1, 10 ** 15))), ([1, 0], [[3, 5], [4, 5]])]


def times(point, many):
    return tuple(number(many * part) for part in fractions(point))


def ray_points(turn):
    return [times(turn, 4), times(turn, 1), times(turn, 2)]


def with_rays(first, x_ray, y_ray):
    """The machine of O, both rays and a reflector that is numbered from first on."""
    bars, beads = reflector_parts(first, x_ray, y_ray)
    bars, beads = list(bars), list(beads)
    for ray in {x_ray, y_ray}:
        bars.append((0, ray, 4))
        beads += [(ray + 1, 0, ray, (1, 4)), (ray + 2, 0, ray, (1, 2))]
    return Machine(first + 12, [(0, O)], bars, beads, first + 2)


def posed(first, x_ray, y_ray, x, y, side):
    """A place for each joint of that machine."""
    places = [(O, (0, 0), 0)] * first
    for ray, turn in ((x_ray, x), (y_ray, y)):
        for at, point in enumerate(ray_points(turn)):
            places[ray + at] = (point, (0, 0), 0)
    return places + list(reflector_places(x, y, side))


class TestExamples(Case):
    def test_reflected(self):
        self.same(
            [reflected((1, 0), (0, 1)), reflected((0, 1), (0, 1)), reflected((0, 1), (1, 0))],
            [(0, -1), (0, 1), (-1, 0)])

    def test_points(self):
        self.same(
            reflector_points((1, 0), (0, 1))[:5], (((-6, 5), (-12, 5)), ((6, 5), (-3, 5)), (0, -4), (0, -1), (0, -2)))
        self.same(
            reflector_points((1, 0), (0, 1))[5:],
            ((0, (1, 2)), ((3, 5), (1, 5)), ((8, 5), (-3, 10)), ((2, 5), (-6, 5)), ((-3, 5), (-16, 5))))

    def test_candidates(self):
        self.same(
            candidates((1, 0), (0, 1)),
            ((('crossed', 'crossed'), (0, -1)), (('crossed', 'parallel'), ((4, 5), (3, 5))),
             (('parallel', 'crossed'), ((-4, 5), (-3, 5))), (('parallel', 'parallel'), (0, 1))))

    def test_places(self):
        self.same(reflector_places((1, 0), (0, 1), 1)[11], (((4, 5), (1, 10)), (1, 2), (589, 1600)))

    def test_parts(self):
        bars, beads = reflector_parts(13, 4, 1)
        self.same(
            [bars[:4], len(bars), beads[:2], len(beads)],
            [((0, 15, 4), (2, 14, 2), (5, 23, (13, 4)), (5, 24, (11, 8))), 12,
             ((14, 6, 13, (1, 4)), (16, 0, 15, (1, 4))), 8])
        self.refuses(BadNumber("x_ray"), reflector_parts, 13, 11, 1)


class TestReflected(Case):
    def test_turns(self):
        for x, y in pairs_of_turns():
            self.same(reflected(x, y), added(doubled(x), back_turn(y)))
            self.same(reflected(x=x, y=reflected(x, y)), added(y, (1, 0)))


class TestPoints(Case):
    def test_both_frames_are_crossed(self):
        for x, y in pairs_of_turns():
            points = reflector_points(x, y)
            d, c, end, a, b = points[:5]
            a_x, b_x, a_y = times(x, 1), times(x, 2), times(y, 1)
            self.same([end, a, b], ray_points(reflected(x, y)))
            self.assertEqual([square(a_y, c), square(c, b_x), square(b_x, d), square(d, end)], [4, 1, 16, 4])
            self.same(c, tuple(number((3 * p + q) / 4) for p, q in zip(fractions(b_x), fractions(d))))
            self.same(points[5:7] + (points[7], a_x), midpoints(O, a_y, c, b_x))
            self.same((a_x, points[8], points[9], b), midpoints(O, b_x, d, end))
            parallel, big_parallel = [
                tuple(number(p + q) for p, q in zip(fractions(one), fractions(other)))
                for one, other in ((a_y, b_x), (d, times(b_x, -1)))]
            self.same([c, end], [mirrored(parallel, a_y, b_x), mirrored(big_parallel, O, d)])

    def test_flat(self):
        for x in some_turns():
            for y in (x, added(x, (-1, 0))):
                self.same(reflector_points(x, y)[3], y)
                self.same(reflector_points(y=y, x=x)[1], tuple(
                    number(fraction(p) + 2 * fraction(q)) for p, q in zip(y, x)))


class TestPlaces(Case):
    def test_right_poses(self):
        machine = with_rays(7, 1, 4)
        for x, y in pairs_of_turns():
            for side in (1, -1):
                pose = posed(7, 1, 4, x, y, side)
                self.same(judged(machine, pose) == Right(), True)
                places = reflector_places(x, y, side)
                self.same([len(places), all(is_place(place) for place in places)], [12, True])
                self.same([place[0] for place in places[:10]], list(reflector_points(x, y)))
                self.same([place[1:] for place in places[:10]], [((0, 0), 0)] * 10)

    def test_keys_on_the_told_side(self):
        for x, y in pairs_of_turns():
            points = reflector_points(x, y)
            a_x = times(x, 1)
            rows = ((10, a_x, points[9]), (11, points[5], points[7]))
            for side in (1, -1):
                places = reflector_places(side=side, y=y, x=x)
                for at, first, third in rows:
                    (p, q), (u, v) = fractions(first), fractions(third)
                    place = places[at]
                    i, j = place[1]
                    if place[2] == 0:
                        (i, j), (h, k) = fractions(place[0]), ((p + u) / 2, (q + v) / 2)
                        i, j = i - h, j - k
                    # No key stands on its row, as m is above t / 2.
                    self.same((u - p) * j - (v - q) * i > 0, side == 1)

    def test_lengths_of_the_keys(self):
        for x, y in pairs_of_turns()[::7]:
            points, places = reflector_points(x, y), reflector_places(x, y, -1)
            a_x = times(x, 1)
            spots = [(point, (0, 0), 0) for point in points + (a_x,)]
            for key, joints, wanted in (
                    (10, (10, 9), (169, 16)), (10, (8, 4), (121, 16)), (11, (5, 7), (169, 64)),
                    (11, (6, 10), (121, 64))):
                self.same([stands_off(places[key], spots[joint]) for joint in joints], [wanted, wanted])

    def test_errors(self):
        for bad in NO_SIDES:
            self.refuses(BadNumber("side"), reflector_places, EAST, NORTH, bad)


class TestCandidates(Case):
    def test_four_ascending(self):
        ways = [("crossed", "crossed"), ("crossed", "parallel"), ("parallel", "crossed"), ("parallel", "parallel")]
        for x, y in pairs_of_turns():
            found = candidates(x, y)
            self.same([way for way, _ in found], ways)
            turns = dict(found)
            self.same([turns[ways[0]], turns[ways[3]]], [reflected(x, y), added(y, (1, 0))])
            b_x, a_y = times(x, 2), times(y, 1)
            parallel = tuple(number(p + q) for p, q in zip(fractions(a_y), fractions(b_x)))
            for big, small in ways:
                c = parallel if small == "parallel" else mirrored(parallel, a_y, b_x)
                d = tuple(number(p + 4 * (q - p)) for p, q in zip(fractions(b_x), fractions(c)))
                end = tuple(number(p - q) for p, q in zip(fractions(d), fractions(b_x)))
                if big == "crossed":
                    end = mirrored(end, O, d)
                self.same(turns[big, small], tuple(number(part / 4) for part in fractions(end)))
                self.assertEqual([square(end, O), square(end, d)], [16, 4])

    def test_alike_and_opposite(self):
        for x in some_turns():
            self.same([turn for _, turn in candidates(x, x)], [x] * 4)
            # The small frame is flat, so C is one point; the big one is flat, too.
            other = added(x, (-1, 0))
            self.same([turn for _, turn in candidates(y=other, x=x)], [other] * 4)


class TestParts(Case):
    def test_what_is_told(self):
        for first, x_ray, y_ray in ((13, 4, 1), (13, 1, 4), (13, 10, 7), (4, 1, 1), (4000, 3997, 1), (4000, 2, 3997),
                (40, 7, 7)):
            bars, beads = reflector_parts(first, x_ray, y_ray)
            a_x, b_x, a_y = x_ray + 1, x_ray + 2, y_ray + 1
            wanted_bars = [
                (b_x, first, 4), (first, first + 2, 2), (a_y, first + 1, 2), (0, first + 2, 4),
                (a_x, first + 10, (13, 4)), (first + 9, first + 10, (13, 4)), (first + 8, first + 10, (11, 4)),
                (first + 4, first + 10, (11, 4)), (first + 5, first + 11, (13, 8)), (first + 7, first + 11, (13, 8)),
                (first + 6, first + 11, (11, 8)), (a_x, first + 11, (11, 8))]
            wanted_beads = [
                (first + 1, b_x, first, (1, 4)), (first + 3, 0, first + 2, (1, 4)), (first + 4, 0, first + 2, (1, 2)),
                (first + 5, 0, a_y, (1, 2)), (first + 6, a_y, first + 1, (1, 2)), (first + 7, b_x, first + 1, (1, 2)),
                (first + 8, b_x, first, (1, 2)), (first + 9, first, first + 2, (1, 2))]
            self.same([bars, beads], [tuple(sorted(wanted_bars)), tuple(sorted(wanted_beads))])
            self.same(reflector_parts(y_ray=y_ray, first=first, x_ray=x_ray), (bars, beads))

    def test_as_a_machine_has_them(self):
        for first, x_ray, y_ray in ((4, 1, 1), (9, 6, 2), (4000 - 12, 1, 3985)):
            bars, beads = reflector_parts(first, x_ray, y_ray)
            machine = Machine(first + 12, [], bars[::-1], beads[::-1], 0)
            self.same([machine.bars, machine.beads], [bars, beads])

    def test_rays_in_any_order(self):
        for first, x_ray, y_ray in ((7, 1, 4), (7, 4, 1), (20, 16, 3), (20, 3, 11), (30, 5, 5)):
            machine = with_rays(first, x_ray, y_ray)
            for x, y in ((EAST, NORTH), (((3, 5), (4, 5)), ((5, 13), (-12, 13)))):
                if x_ray == y_ray:
                    y = x
                self.same(judged(machine, posed(first, x_ray, y_ray, x, y, 1)) == Right(), True)

    def test_errors(self):
        for bad in NO_INTEGERS + [3, 0, -4, 4001, 10 ** 40]:
            self.refuses(BadNumber("first"), reflector_parts, bad, None, None)
        for bad in NO_INTEGERS + [0, -1, 11, 12, 13, 10 ** 40]:
            self.refuses(BadNumber("x_ray"), reflector_parts, 13, bad, None)
            self.refuses(BadNumber("y_ray"), reflector_parts, 13, 10, bad)
        self.refuses(BadNumber("x_ray"), reflector_parts, 4, 2, 1)
        self.refuses(BadNumber("y_ray"), reflector_parts, 4, 1, 2)


class TestErrors(Case):
    def test_turns(self):
        for bad in NO_TURNS:
            for call, rest in ((reflected, ()), (reflector_points, ()), (reflector_places, (0,)), (candidates, ())):
                self.refuses(BadTurn("x"), call, bad, bad, *rest)
                self.refuses(BadTurn("y"), call, EAST, bad, *rest)


class TestWhatWasPassed(Case):
    def test_stays(self):
        x, y = [[3, 5], [4, 5]], [0, 1]
        for call in (reflected, reflector_points, candidates):
            call(x, y)
        reflector_places(x, y, 1)
        self.same([x, y], [[[3, 5], [4, 5]], [0, 1]])
        for one, other in product((x, ((3, 5), (4, 5))), (y, (0, 1))):
            self.same(reflector_places(one, other, 1), reflector_places(((3, 5), (4, 5)), (0, 1), 1))


if __name__ == "__main__":
    unittest.main()
