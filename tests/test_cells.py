"""[11]: cells."""

import unittest
from decimal import Decimal
from fractions import Fraction
from itertools import product
from math import isqrt

from helpers import (
    NO_NUMBERS, NO_POINTS, NO_SIDES, Case, decimal, fraction, number, spot, square_between, times, total)
from typedcurve.cells import cell_of, cell_parts, cell_places
from typedcurve.errors import BadNumber, BadPoint, Misfit
from typedcurve.machines import Machine
from typedcurve.places import is_place
from typedcurve.poses import Right, judged

O = (0, 0)
NO_INTEGERS = [True, False, None, 4.0, "4", (9, 2), (4, 1), [7], (), {}, object()]
NO_REACHES = NO_NUMBERS + [-1, (-1, 2), [-7, 3], -10 ** 40]
NO_PAIRS_OF_SIDES = [
    None, True, 1, -1, "11", b"11", (), [], (1,), [1, 1, 1], (1, -1, 1), {1: 1, -1: -1}, {1, -1}, object()]
SIDES = [(1, 1), (1, -1), [-1, 1], (-1, -1)]


def some_lines():
    """h and reach: whole and broken ones, great and little ones."""
    return [
        (0, 0), (0, 2), (1, 1), (-1, 1), ((1, 2), 3), ([-3, 4], [5, 3]), (3, 5), (-3, 5), ((7, 18), (25, 18)),
        (0, 10 ** 30),
        (10 ** 30, 10 ** 30 + 1), ((1, 10 ** 30), (1, 10 ** 29)), (-7, (15, 2)), ((3, 5), 1)]


def some_ends(h, reach):
    """Ends on the line up to the reach, some just at it where a number is there."""
    most = fraction(reach) ** 2 - fraction(h) ** 2
    scale = 10 ** 6 * most.denominator
    high = Fraction(isqrt(int(most * scale ** 2)), scale)
    found = []
    for share in (Fraction(0), Fraction(1, 3), Fraction(-1, 2), Fraction(1), Fraction(-1)):
        found.append((h, number(high * share)))
    return found


def across(one, other, place):
    """1 if a place is to the left of the way from one to other, -1 to the right, 0 on the line."""
    (x, y), (u, v), (p, q) = [spot(told) for told in (one, other, place)]
    along = (u - x) * (q - y) - (v - y) * (p - x)
    little = (1 + (u - x) ** 2 + (v - y) ** 2) * Decimal(10) ** -60
    return 0 if abs(along) < little else 1 if along > 0 else -1


class TestExamples(Case):
    def test_cell_of(self):
        self.same(cell_of(0, 2), ((-3, 0), ((-3, 2), 0), (9, 2), (15, 2)))

    def test_places(self):
        here = cell_places(0, 2, (0, 0), (1, 1))
        self.same(
            [place[0] for place in here],
            [(-3, (9, 4)), (-3, (-9, 4)), (3, (9, 4)), (3, (-9, 4)), (-3, 0), (3, 0), (0, 0), ((-3, 2), 0),
             (0, (45, 8))])
        up = cell_places(0, 2, (0, 1), [1, -1])
        self.same(
            [up[0], up[1], up[6], up[8]],
            [(((-63, 20), (-1, 20)), (-1, 3), (403, 800)), (((-57, 20), (1, 20)), (1, -3), (403, 800)),
             (((-3, 10), (9, 10)), (0, 0), 0), (((-3, 20), (19, 20)), (1, -3), (10117, 3200))])
        self.refuses(Misfit("line"), cell_places, 0, 2, (1, 0), (1, 1))
        self.refuses(Misfit("reach"), cell_places, 0, 2, (0, 3), (1, 1))

    def test_parts(self):
        self.same(
            cell_parts(51, 46, 0, 2)[:2],
            (((55, (-3, 0)), (58, ((-3, 2), 0))),
             ((46, 59, (45, 8)), (51, 52, (9, 2)), (51, 54, (15, 2)), (52, 53, (15, 2)), (53, 54, (9, 2)),
              (55, 59, (51, 8)), (56, 59, (51, 8)), (57, 58, (3, 2)), (57, 59, (45, 8)))))
        self.same(
            cell_parts(51, 46, 0, 2)[2],
            ((46, 52, 53, (1, 2)), (55, 51, 52, (1, 2)), (56, 53, 54, (1, 2)), (57, 51, 54, (1, 2))))


class TestCellOf(Case):
    def test_pins_and_lengths(self):
        for h, reach in some_lines() + [(5, 0), ((-1, 3), 0), (100, (1, 7))]:
            line, far = fraction(h), fraction(reach) + 1
            self.same(
                cell_of(h, reach),
                ((number(line - far), 0), (number(line - far / 2), 0), number(far * 3 / 2), number(far * 5 / 2)))
        self.same(cell_of(reach=[1, 2], h=[1, 3]), (((-7, 6), 0), ((-5, 12), 0), (9, 4), (15, 4)))

    def test_errors(self):
        for bad in NO_NUMBERS:
            self.refuses(BadNumber("h"), cell_of, bad, None)
        for bad in NO_REACHES:
            self.refuses(BadNumber("reach"), cell_of, 0, bad)


class TestPlaces(Case):
    def check(self, h, reach, v, sides):
        places = cell_places(h, reach, v, sides)
        self.same([is_place(place) for place in places], [True] * 9)
        pins, bars, beads = cell_parts(1, 0, h, reach)
        pose = [(times(v, 1), O, 0)] + list(places)
        self.same(judged(Machine(10, pins, bars, beads, 0), pose) == Right(), True)
        return pose

    def test_on_each_pair_of_sides(self):
        for h, reach in some_lines():
            for v, sides in product(some_ends(h, reach), SIDES):
                v, *corners, z, g, q, u, key = self.check(h, reach, v, sides)
                self.same([across(z, v, corner) for corner in corners],
                    [sides[0], -sides[0], sides[0], -sides[0]])
                self.same(across(z, v, key), sides[1])
                self.same([across(z, v, joint) for joint in (g, q)], [0, 0])

    def test_lengths_told_again(self):
        # The lengths are measured here by decimals of many digits, not by the places' own arithmetic.
        for h, reach in some_lines()[:9]:
            far = decimal(reach) + 1
            for v in some_ends(h, reach):
                v, o, a, c, b, z, g, q, u, key = self.check(h, reach, v, (1, -1))
                lengths = {
                    (o, a): far * 3 / 2, (c, b): far * 3 / 2, (a, c): far * 5 / 2, (o, b): far * 5 / 2,
                    (q, u): far / 2, (key, z): far * 17 / 8, (key, g): far * 17 / 8, (key, v): far * 15 / 8,
                    (key, q): far * 15 / 8}
                for (one, other), length in lengths.items():
                    self.near(square_between(one, other), length ** 2)
                for middle, one, other in ((z, o, a), (v, a, c), (g, c, b), (q, o, b)):
                    for at in range(2):
                        self.near(2 * spot(middle)[at], spot(one)[at] + spot(other)[at])
                self.same([place[1:] for place in (z, g, q, u)], [(O, 0)] * 4)
                self.same((z[0], u[0]), cell_of(h, reach)[:2])

    def test_the_frame_is_crossed(self):
        # C' is the parallel corner mirrored at A' B', so it is as far from this line, and on the other side of it.
        for v in some_ends(0, 4):
            _, o, a, c, b = self.check(0, 4, v, (1, 1))[:5]
            self.same(across(a, b, o), across(a, b, c))

    def test_just_at_the_reach(self):
        for h, reach, y in ((3, 5, 4), (-3, 5, -4), (0, 2, 2), (0, (5, 7), (-5, 7)), ((3, 5), 1, (4, 5)), (5, 5, 0),
                (0, 0, 0), (-1, 1, 0), (8 * 10 ** 20, 10 ** 21, -6 * 10 ** 20)):
            self.check(h, reach, (h, y), (1, 1))
            for little in (Fraction(1, 10 ** 30), Fraction(-1, 10 ** 30)):
                more = number(fraction(y) + little)
                if abs(fraction(more)) > abs(fraction(y)):
                    self.refuses(Misfit("reach"), cell_places, h, reach, (h, more), (1, 1))
                self.refuses(Misfit("line"), cell_places, h, reach, (number(fraction(h) + little), y), (1, 1))
            if reach != 0:
                less = number(fraction(reach) - Fraction(1, 10 ** 30))
                self.refuses(Misfit("reach"), cell_places, h, less, (h, y), (1, 1))

    def test_a_line_out_of_reach(self):
        for h, reach in ((3, 2), (-1, 0), ((1, 2), (1, 3))):
            self.refuses(Misfit("reach"), cell_places, h, reach, (h, 0), (1, 1))
            self.refuses(Misfit("line"), cell_places, h, reach, (number(-fraction(h)), 0), (1, 1))

    def test_one_form(self):
        # With the end level with Z all joints stand at points; so they do where all roots are numbers.
        self.same([place[1:] for place in cell_places((1, 2), 3, ((1, 2), 0), (1, 1))], [(O, 0)] * 9)
        up = cell_places(0, 2, [0, 1], (-1, 1))
        self.same([place[2] for place in up], [(403, 800)] * 4 + [0] * 4 + [(10117, 3200)])
        self.same([place[1] for place in up[:4]] + [up[8][1]], [(1, -3), (-1, 3), (1, -3), (-1, 3), (-1, 3)])

    def test_line_ahead_of_reach(self):
        self.refuses(Misfit("line"), cell_places, 0, 1, (9, 9), (1, 1))

    def test_by_name(self):
        self.same(
            cell_places(sides=[1, -1], v=[0, 1], reach=2, h=0), cell_places(0, 2, (0, 1), (1, -1)))

    def test_errors(self):
        for bad in NO_NUMBERS:
            self.refuses(BadNumber("h"), cell_places, bad, None, None, None)
        for bad in NO_REACHES:
            self.refuses(BadNumber("reach"), cell_places, 0, bad, None, None)
        for bad in NO_POINTS:
            self.refuses(BadPoint("v"), cell_places, 0, 2, bad, None)
        for bad in NO_PAIRS_OF_SIDES + [(1, bad) for bad in NO_SIDES] + [[bad, -1] for bad in NO_SIDES]:
            self.refuses(BadNumber("sides"), cell_places, 0, 2, (9, 9), bad)


class TestParts(Case):
    def test_what_is_told(self):
        for first, v in ((51, 46), (1, 0), (10, 0), (10, 9), (10 ** 6, 999999)):
            for h, reach in some_lines():
                far, (z_point, u_point) = fraction(reach) + 1, cell_of(h, reach)[:2]
                o, a, c, b, z, g, q, u, key = range(first, first + 9)
                short, long, outer, inner, half = [number(far * part) for part in (
                    Fraction(3, 2), Fraction(5, 2), Fraction(17, 8), Fraction(15, 8), Fraction(1, 2))]
                bars = [
                    (o, a, short), (a, c, long), (c, b, short), (o, b, long), (q, u, half), (z, key, outer),
                    (g, key, outer), (v, key, inner), (q, key, inner)]
                beads = [(v, a, c, (1, 2)), (z, o, a, (1, 2)), (g, c, b, (1, 2)), (q, o, b, (1, 2))]
                got = cell_parts(first, v, h, reach)
                self.same(got, (((z, z_point), (u, u_point)), tuple(sorted(bars)), tuple(sorted(beads))))
                self.same(cell_parts(reach=reach, h=h, v=v, first=first), got)

    def test_as_a_machine_has_them(self):
        for first, v in ((51, 46), (1, 0), (3991, 3990)):
            pins, bars, beads = cell_parts(first, v, (-3, 2), (7, 2))
            machine = Machine(first + 9, pins[::-1], bars[::-1], beads[::-1], 0)
            self.same([machine.pins, machine.bars, machine.beads], [pins, bars, beads])

    def test_errors(self):
        for bad in NO_INTEGERS + [0, -1, -10 ** 40]:
            self.refuses(BadNumber("first"), cell_parts, bad, None, None, None)
        for bad in NO_INTEGERS + [-1, 51, 52, 10 ** 40]:
            self.refuses(BadNumber("v"), cell_parts, 51, bad, None, None)
        self.refuses(BadNumber("v"), cell_parts, 1, 1, None, None)
        for bad in NO_NUMBERS:
            self.refuses(BadNumber("h"), cell_parts, 51, 46, bad, None)
        for bad in NO_REACHES:
            self.refuses(BadNumber("reach"), cell_parts, 51, 46, 0, bad)


class TestTheLine(Case):
    def test_no_other_end(self):
        # Q goes on the circle, the end on the line: their distances from Z multiplied are T T.
        for v in some_ends(0, 3):
            places = cell_places(0, 3, v, (1, 1))
            z, q = places[4], places[6]
            self.near(square_between(z, (v, O, 0)) * square_between(z, q), Decimal(4) ** 4)
            self.same(total(places[7][0], (2, 0))[0], 0)


if __name__ == "__main__":
    unittest.main()
