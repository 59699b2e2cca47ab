"""[9]: frames, their corners and midpoints."""

import unittest
from fractions import Fraction
from itertools import product

from helpers import NO_LENGTHS, NO_POINTS, Case, fraction, fractions, number, some_frames, square
from typedcurve.errors import BadNumber, BadPoint, Misfit
from typedcurve.frames import corners, is_flat, midpoints, mirrored, spread

O, EAST, NORTH = (0, 0), (2, 0), (0, 1)
POINTS = [(0, 0), (1, 0), (0, -2), ((1, 2), (-3, 7)), [[-5, 3], 4], (7, (1, 9)), (10 ** 20, (1, 10 ** 20))]


def off_line(point, one, other):
    """0 if a point stands on the line through two others."""
    (x, y), (a, b), (c, d) = fractions(point), fractions(one), fractions(other)
    return (c - a) * (y - b) - (d - b) * (x - a)


def fix(point):
    return tuple(number(part) for part in fractions(point))


class TestExamples(Case):
    def test_corners(self):
        o, east, north = O, EAST, NORTH
        self.same(corners(1, 2, o, north, east), ((2, 1), ((6, 5), (-3, 5))))
        self.same(
            [corners(1, 2, o, (1, 0), east), corners(1, 2, o, (-1, 0), east), is_flat(o, (-1, 0), east),
             is_flat(o, north, east)],
            [((3, 0),), ((1, 0),), True, False])

    def test_midpoints(self):
        o, east, north = O, EAST, NORTH
        self.same(
            [midpoints(o, north, ((6, 5), (-3, 5)), east), spread(o, north, ((6, 5), (-3, 5)), east),
             spread(o, north, (2, 1), east)],
            [((0, (1, 2)), ((3, 5), (1, 5)), ((8, 5), (-3, 10)), (1, 0)), ((4, 5), (1, 20)), (1, (1, 4))])

    def test_mirrored(self):
        self.same(mirrored((2, 1), NORTH, EAST), ((6, 5), (-3, 5)))
        self.refuses(Misfit("lengths"), corners, 1, 2, O, EAST, NORTH)


class TestMirrored(Case):
    def test_lines_of_any_direction(self):
        for point, one, other in product(POINTS, repeat=3):
            if fix(one) == fix(other):
                continue
            got = mirrored(point, one, other)
            self.same(fix(got), got)
            # It is as far from both points of the line, and on the other side of it.
            self.same([square(got, one), square(got, other)], [square(point, one), square(point, other)])
            self.same(off_line(got, one, other), -off_line(point, one, other))
            self.same(mirrored(got, one, other), fix(point))
            self.same(mirrored(point, other, one), got)

    def test_the_points_of_the_line_stay(self):
        for one, other in product(POINTS, repeat=2):
            if fix(one) == fix(other):
                continue
            (x, y), (u, v) = fractions(one), fractions(other)
            for share in (0, 1, Fraction(1, 3), -2, 7):
                point = number(x + share * (u - x)), number(y + share * (v - y))
                self.same(mirrored(point, one, other), point)

    def test_few(self):
        self.same(
            [mirrored((3, 5), (0, 0), (1, 0)), mirrored((3, 5), (0, 7), (0, 1)), mirrored((3, 5), (1, 1), (4, 4)),
             mirrored(other=[0, 1], one=[1, 0], point=[0, 0])],
            [(3, -5), (-3, 5), (5, 3), (1, 1)])

    def test_no_line(self):
        for point in POINTS:
            self.refuses(Misfit("line"), mirrored, (0, 0), point, point)
        self.refuses(Misfit("line"), mirrored, (0, 0), [[1, 2], 3], ((1, 2), 3))


class TestCorners(Case):
    def test_as_far_as_the_lengths_tell(self):
        for s, t, o, a, b in some_frames():
            found = corners(s, t, o, a, b)
            flat = off_line(a, o, b) == 0
            self.same([len(found), is_flat(o, a, b)], [1 if flat else 2, flat])
            for c in found:
                self.same(fix(c), c)
                self.same([square(c, b), square(c, a)], [fraction(s) ** 2, fraction(t) ** 2])
            (x, y), (u, v), (p, q) = fractions(a), fractions(b), fractions(o)
            self.same(found[0], (number(x + u - p), number(y + v - q)))
            self.same(found[-1], mirrored(found[0], a, b))
            self.same(len(set(found)), len(found))

    def test_by_name(self):
        self.same(corners(b=[2, 0], a=[0, 1], o=[0, 0], t=2, s=1), ((2, 1), ((6, 5), (-3, 5))))
        self.same(corners([1, 2], [2, 3], [5, 5], [[11, 2], 5], [5, [17, 3]]),
            corners((1, 2), (2, 3), (5, 5), ((11, 2), 5), (5, (17, 3))))

    def test_lengths_that_do_not_fit(self):
        for told in ((1, 2, O, EAST, NORTH), (2, 1, O, EAST, NORTH), (2, 2, O, (2, 0), (0, 2)),
                (2, 2, O, (2, 0), (2, 0)),
                     (1, 3, O, NORTH, EAST), ((1, 2), 2, O, NORTH, EAST), (1, 2, (1, 0), NORTH, EAST),
                     (1, 2, O, O, EAST), (1, 2, O, NORTH, O), (1, 2, O, O, O), (1, 2, O, (1, 1), EAST)):
            self.refuses(Misfit("lengths"), corners, *told)


class TestFlat(Case):
    def test_of_any_three_points(self):
        for o, a, b in product(POINTS, repeat=3):
            if fix(o) == fix(b):
                self.refuses(Misfit("line"), is_flat, o, a, b)
            else:
                self.same(is_flat(o, a, b), off_line(a, o, b) == 0)
        self.same([is_flat(o=(0, 0), b=(2, 4), a=((1, 2), 1)), is_flat((1, 1), (1, 1), (0, 5))], [True, True])


class TestMidpoints(Case):
    def test_of_any_four_points(self):
        for o, a, c, b in product(POINTS[:5], repeat=4):
            pairs = ((o, a), (a, c), (c, b), (b, o))
            wanted = tuple(
                tuple(number((p + q) / 2) for p, q in zip(fractions(one), fractions(other))) for one, other in pairs)
            self.same(midpoints(o, a, c, b), wanted)
            self.same(
                spread(o, a, c, b),
                (number(square(wanted[0], wanted[2]) / 4), number(square(wanted[1], wanted[3]) / 4)))
        self.same(midpoints(b=(0, 4), c=(2, 2), a=(2, 0), o=[0, 0]), ((1, 0), (2, 1), (1, 3), (0, 2)))
        self.same(spread(b=(0, 4), c=(2, 2), a=(2, 0), o=[0, 0]), ((9, 4), (5, 4)))

    def test_in_frames(self):
        for s, t, o, a, b in some_frames():
            found = corners(s, t, o, a, b)
            x, y = spread(o, a, found[-1], b)
            self.same(fraction(x) - fraction(y), (fraction(t) ** 2 - fraction(s) ** 2) / 4)
            self.assertTrue(fraction(x) <= fraction(t) ** 2 / 4)
            self.same(spread(o, a, found[0], b), (number(fraction(t) ** 2 / 4), number(fraction(s) ** 2 / 4)))


class TestErrors(Case):
    def test_points(self):
        for bad in NO_POINTS:
            self.refuses(BadPoint("point"), mirrored, bad, bad, bad)
            self.refuses(BadPoint("one"), mirrored, O, bad, bad)
            self.refuses(BadPoint("other"), mirrored, O, O, bad)
            self.refuses(BadPoint("o"), corners, 2, 1, bad, bad, bad)
            self.refuses(BadPoint("a"), corners, 2, 1, O, bad, bad)
            self.refuses(BadPoint("b"), corners, 2, 1, O, O, bad)
            self.refuses(BadPoint("o"), is_flat, bad, bad, bad)
            self.refuses(BadPoint("a"), is_flat, O, bad, bad)
            self.refuses(BadPoint("b"), is_flat, O, O, bad)
            for call in (midpoints, spread):
                self.refuses(BadPoint("o"), call, bad, bad, bad, bad)
                self.refuses(BadPoint("a"), call, O, bad, bad, bad)
                self.refuses(BadPoint("c"), call, O, O, bad, bad)
                self.refuses(BadPoint("b"), call, O, O, O, bad)

    def test_lengths(self):
        for bad in NO_LENGTHS:
            self.refuses(BadNumber("s"), corners, bad, bad, None, None, None)
            self.refuses(BadNumber("t"), corners, 1, bad, None, None, None)


if __name__ == "__main__":
    unittest.main()
