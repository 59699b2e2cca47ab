"""[12]: the built machine."""

import time
import unittest
from fractions import Fraction
from unittest.mock import patch

from helpers import NO_LENGTHS, NO_POLYS, Case, fraction, number, shown, some_poly
from typedcurve.builds import end_in, machine_for, need_room, rays_in
from typedcurve.errors import BadNumber, BadPoly, TooMany
from typedcurve.machines import Machine, islands
from typedcurve.plans import count_for, terms_for, words_for
from typedcurve.poly_texts import typed
from typedcurve.polys import Poly
from typedcurve.stands import stands
from typedcurve.waves import waves_of
from typedcurve.words import made_of, steps

HALF, QUARTER = (1, 2), (1, 4)
FIRST = [(0, 0, 0), (1, 0, 0), (0, 1, 0), (0, 0, 1)]
CALLS = [machine_for, rays_in, end_in]


def some_builds():
    """Polynomials of no term, one, some and all terms, of degree 0 to 3, each with a radius."""
    polys = [typed("0"), typed("-3/2"), typed("x"), typed("y"), typed("x * x + y * y - 1"), typed("x * x + y * y"),
        typed("x * y - 1"), typed("x ^ 3 - 3 * x * y ^ 2"), typed("y ^ 2 - x ^ 3"), typed("2 * x - y + 1/3")]
    polys += [some_poly(10 * degree + many, degree, many) for degree in range(4) for many in (1, 3, 10)]
    radii = [1, (5, 6), [3, 2], 4, (1, 7)]
    return [(poly, radii[at % 5]) for at, poly in enumerate(polys)]


class Told:
    """The machine of a polynomial and a radius, numbered joint by joint just as [10], [11] and [12] tell it."""

    def __init__(self, poly, radius):
        self.many, self.pins, self.bars, self.beads, self.rays = 0, [], [], [], []
        self.ends = {}
        (self.origin,) = self.joints(1)
        self.pins.append((self.origin, (0, 0)))
        for word in FIRST:
            end, a, b = self.joints(3)
            self.ray(word, end, a, b)
            if word == (0, 0, 0):
                self.pins.append((end, (4, 0)))
            elif word == (0, 0, 1):
                self.pins.append((end, ((16, 5), (12, 5))))
            else:
                self.bars.append((self.origin, end, 4))
        for word in words_for(poly, radius):
            self.reflector(word)
        self.arms(fraction(radius))
        self.end, numbers = self.origin, []
        for at, (word, factor) in enumerate(terms_for(poly, radius)):
            numbers.append(fraction(factor))
            self.term(at, word, numbers)
        self.cell(-fraction(waves_of(poly, radius).constant), sum(abs(factor) for factor in numbers))

    def joints(self, many):
        first, self.many = self.many, self.many + many
        return range(first, first + many)

    def ray(self, word, end, a, b):
        self.beads += [(a, self.origin, end, QUARTER), (b, self.origin, end, HALF)]
        self.ends[word] = (end, a, b)
        self.rays.append((word, end))

    def reflector(self, word):
        (_, a_x, b_x), (_, a_y, _) = [self.ends[part] for part in made_of(word)]
        d, c, r, a, b, five, six, seven, eight, nine, big, small = self.joints(12)
        self.bars += [(d, b_x, 4), (d, r, 2), (c, a_y, 2), (r, self.origin, 4)]
        self.ray(word, r, a, b)
        self.beads += [(c, b_x, d, QUARTER)]
        for middle, one, other in (
                (five, self.origin, a_y), (six, a_y, c), (seven, b_x, c), (eight, b_x, d), (nine, d, r)):
            self.beads.append((middle, one, other, HALF))
        self.bars += [(big, a_x, (13, 4)), (big, nine, (13, 4)), (big, eight, (11, 4)), (big, b, (11, 4))]
        self.bars += [(small, five, (13, 8)), (small, seven, (13, 8)), (small, six, (11, 8)), (small, a_x, (11, 8))]

    def arms(self, radius):
        one, other, pen, to_one, to_pen = self.joints(5)
        self.pen = pen
        self.beads += [
            (one, self.origin, self.ends[2, 0, 0][0], number(radius / 4)),
            (other, self.origin, self.ends[0, 2, 0][0], number(radius / 4)),
            (to_one, self.origin, one, HALF), (to_pen, other, pen, HALF)]
        self.bars += [(joint, behind, number(radius)) for joint, behind in ((one, pen), (other, pen), (to_one, to_pen))]

    def term(self, at, word, numbers):
        ray = self.ends[word][0]
        if at == 0:
            (w,) = self.joints(1)
            self.beads.append((w, self.origin, ray, number(numbers[at] / 4)))
            self.end = w
            return
        w, m, moved, v, one, two, three, four = self.joints(8)
        self.beads.append((w, self.origin, ray, number(numbers[at] / 4)))
        length, size = 1 + sum(abs(factor) for factor in numbers), abs(numbers[at])
        for bars, far in (
                (((self.origin, m), (w, moved), (self.end, m), (moved, v)), length),
                (((m, moved), (self.end, v), (one, two), (three, four)), size)):
            self.bars += [(joint, other, number(far)) for joint, other in bars]
        for middle, joint, other in (
                (one, self.origin, m), (two, w, moved), (three, self.end, m), (four, moved, v)):
            self.beads.append((middle, joint, other, HALF))
        self.end = v

    def cell(self, h, reach):
        far = reach + 1
        o, a, c, b, z, g, q, u, key = self.joints(9)
        self.pins += [(z, (number(h - far), 0)), (u, (number(h - far / 2), 0))]
        self.bars += [
            (o, a, number(far * 3 / 2)), (c, b, number(far * 3 / 2)), (a, c, number(far * 5 / 2)),
            (o, b, number(far * 5 / 2)), (q, u, number(far / 2)), (key, z, number(far * 17 / 8)),
            (key, g, number(far * 17 / 8)), (key, self.end, number(far * 15 / 8)), (key, q, number(far * 15 / 8))]
        self.beads += [(z, o, a, HALF), (self.end, a, c, HALF), (g, c, b, HALF), (q, o, b, HALF)]

    def machine(self):
        return Machine(self.many, self.pins, self.bars, self.beads, self.pen)


class TestExamples(Case):
    def setUp(self):
        self.across = typed("x")

    def test_rays_and_end(self):
        self.same(
            [rays_in(self.across, 1), end_in(self.across, 1), machine_for(self.across, 1).pen],
            [(((0, 0, 0), 1), ((1, 0, 0), 4), ((0, 1, 0), 7), ((0, 0, 1), 10), ((2, 0, 0), 15), ((0, 2, 0), 27)),
             46, 39])

    def test_plain(self):
        plain = machine_for(self.across, 1)
        self.same(
            [plain.many, len(plain.bars), plain.pins],
            [60, 46, ((0, (0, 0)), (1, (4, 0)), (10, ((16, 5), (12, 5))), (55, (-3, 0)), (58, ((-3, 2), 0)))])
        self.same(
            [bead for bead in plain.beads if bead[0] in (42, 43)], [(42, 0, 27, (1, 4)), (43, 0, 15, (1, 4))])

    def test_without_terms(self):
        self.same([end_in(typed("0"), 1), machine_for(typed("0"), 1).many], [0, 51])


class TestMachines(Case):
    def test_joint_by_joint(self):
        for poly, radius in some_builds():
            told, machine = Told(poly, radius), machine_for(poly, radius)
            self.same(shown(machine), shown(told.machine()))
            self.same(rays_in(poly, radius), tuple(told.rays))
            self.same(end_in(poly, radius), told.end)
            self.same((machine.many, len(machine.bars)), count_for(poly, radius))
            self.same(machine_for(radius=radius, poly=poly) == machine, True)

    def test_the_pen(self):
        for poly, radius in some_builds():
            first = 13 + 12 * len(words_for(poly, radius))
            machine = machine_for(poly, radius)
            self.same(machine.pen, first + 2)
            far = number(fraction(radius))
            self.same(machine.bars_at(machine.pen), ((first, first + 2, far), (first + 1, first + 2, far)))

    def test_one_island(self):
        for poly, radius in some_builds():
            machine = machine_for(poly, radius)
            # The rays of delta and of no angle are linked to O by their beads.
            self.same(islands(machine), (tuple(range(machine.many)),))

    def test_rays(self):
        for poly, radius in some_builds():
            rays = rays_in(poly, radius)
            self.same([word for word, _ in rays], FIRST + list(words_for(poly, radius)))
            machine = machine_for(poly, radius)
            for word, joint in rays[4:]:
                self.same((0, joint, 4) in machine.bars_at(joint), True)
                self.same((joint + 1, 0, joint, QUARTER) in machine.beads_at(joint), True)
                self.same((joint + 2, 0, joint, HALF) in machine.beads_at(joint), True)
            self.same(rays_in(radius=radius, poly=poly), rays)

    def test_ends(self):
        for poly, radius in some_builds():
            many = len(terms_for(poly, radius))
            behind_arms = 18 + 12 * len(words_for(poly, radius))
            wanted = 0 if many == 0 else behind_arms + (0 if many == 1 else 8 * many - 12)
            self.same(end_in(poly, radius), wanted)
            self.same(end_in(radius=radius, poly=poly), wanted)

    def test_without_terms(self):
        for text, h in (("0", 0), ("-3/2", (3, 2)), ("7", -7)):
            machine, line = machine_for(typed(text), (5, 2)), fraction(h)
            self.same(machine.many, 51)
            self.same(machine.pins[3:], ((46, (number(line - 1), 0)), (49, (number(line - Fraction(1, 2)), 0))))
            self.same([bead for bead in machine.beads if bead[0] == 0], [(0, 43, 44, HALF)])
            self.same(machine.bars_at(50)[0], (0, 50, (15, 8)))


class TestErrors(Case):
    def test_polys_and_radii(self):
        for call in CALLS:
            for bad in NO_POLYS:
                self.refuses(BadPoly("poly"), call, bad, None)
            for bad in NO_LENGTHS:
                self.refuses(BadNumber("radius"), call, typed("x"), bad)

    def test_more_than_4000_joints(self):
        # No polynomial needs so many, so what refuses them is called by itself.
        for many in (4001, 5000, 10 ** 40):
            self.refuses(TooMany("joints", 4000), need_room, many)
        for many in (1, 51, 4000):
            self.same(need_room(many), None)

    def test_each_call_asks_for_room(self):
        # As no machine is too great, the most is told as less here: the machine of x has 60 joints.
        calls = [(call, (typed("x"), 1)) for call in CALLS] + [(stands, (typed("x"), 1, (1, 0), (0, 1)))]
        with patch.object(Machine, "MOST", 59):
            for call, values in calls:
                self.refuses(TooMany("joints", 59), call, *values)
                self.refuses(BadNumber("radius"), call, typed("x"), 0, *values[2:])
            # It comes ahead of whether f is 0 there.
            self.refuses(TooMany("joints", 59), stands, typed("x"), 1, (1, 0), (1, 0))
            self.same(count_for(typed("x"), 1), (60, 46))
        with patch.object(Machine, "MOST", 60):
            for call, values in calls:
                call(*values)

    def test_the_greatest_machine(self):
        poly = Poly([(i, j, i + 7 * j + 1) for i in range(7) for j in range(7 - i)])
        machine = machine_for(poly, (5, 6))
        self.same((machine.many, len(machine.bars)), count_for(poly, (5, 6)))
        # Even with a term for each word that a beat lets there are not more than 4000 joints.
        beats = [(p, q) for p in range(7) for q in range(-6, 7) if p + abs(q) <= 6 and (p > 0 or q > 0)]
        words = [(2 * p, 2 * q, l) for p, q in beats for l in (0, 2)]
        most = 20 + 12 * len(steps(words)) + 8 * len(words)
        self.assertTrue(machine.many < most < 4000)


class TestShortTime(Case):
    def test_degree_2(self):
        poly = Poly([(i, j, number(Fraction(991 - 7 * i, 983 + 2 * j))) for i in range(3) for j in range(3 - i)])
        start = time.perf_counter()
        for call in CALLS:
            call(poly, (997, 991))
        self.assertLess(time.perf_counter() - start, 2)


if __name__ == "__main__":
    unittest.main()
