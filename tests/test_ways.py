"""[14]: which way the pen goes."""

import unittest
from fractions import Fraction
from math import gcd

from helpers import (
    NO_LENGTHS, NO_POLYS, NO_TURNS, Case, fraction, fractions, number, pen_of, some_poly, some_turns, through,
    turn_times, value_of)
from typedcurve.errors import BadNumber, BadPoly, BadTurn, Misfit
from typedcurve.papers import Denial, Paper
from typedcurve.poly_texts import typed
from typedcurve.polys import Poly, poly_product, poly_times
from typedcurve.turns import by_half
from typedcurve.waves import slopes_at, waves_of
from typedcurve.ways import Knot, Way, way_at

EAST, NORTH, WEST, SOUTH = (1, 0), (0, 1), (-1, 0), (0, -1)
THIRD = ((3, 5), (4, 5))
RADII = [1, (5, 6), [3, 2], 2]


def some_polys():
    return [typed(text) for text in (
        "x", "y", "x * x + y * y", "x * y", "y ^ 2 - x ^ 3", "x - y", "0", "5", "( x - y ) ^ 2", "x ^ 4 - y")] + [
        some_poly(5 * degree + many, degree, many) for degree in range(1, 5) for many in (2, 15)]


def some_places():
    """Curves that go through the pen at two turns: alike, opposite and others."""
    turns = some_turns()
    pairs = [(EAST, EAST), (THIRD, THIRD), (EAST, NORTH), (THIRD, ((-4, 5), (3, 5))), (NORTH, EAST), (WEST, EAST),
        ([1, 0], [[3, 5], [-4, 5]]), (by_half((997, 991)), by_half((-5, 7)))]
    for at, (a, b) in enumerate(pairs + list(zip(turns[3:], turns[5:] + turns[:2]))):
        for step, poly in enumerate(some_polys()):
            radius = RADII[(at + step) % 4]
            yield through(poly, radius, a, b), radius, a, b


def sloped(poly, point):
    """How fast the value grows with x and with y, by Python's fractions."""
    x, y = fractions(point)
    by_x = sum(fraction(factor) * i * x ** (i - 1) * y ** j for i, j, factor in poly.terms if i)
    by_y = sum(fraction(factor) * j * x ** i * y ** (j - 1) for i, j, factor in poly.terms if j)
    return Fraction(by_x), Fraction(by_y)


def growths(poly, radius, a, b):
    """A and B."""
    (c, s), (u, v), r = turn_times(a, 2), turn_times(b, 2), fraction(radius)
    p, q = sloped(poly, pen_of(radius, a, b))
    return 2 * r * (c * q - s * p), 2 * r * (u * q - v * p)


class TestExamples(Case):
    def setUp(self):
        self.across, self.circle = typed("x"), typed("x * x + y * y - 1")

    def test_circle(self):
        self.same(way_at(self.circle, (5, 6), EAST, ((3, 5), (-4, 5))).parts, (1, 1, (8, 5), (6, 5)))

    def test_lines(self):
        self.same(
            [way_at(typed("y - x"), 1, EAST, NORTH).parts,
             way_at(typed("25 * y - 48"), radius=2, a=EAST, b=((3, 5), (4, 5))).parts],
            [(1, 1, 0, 0), (7, 25, -96, 0)])

    def test_knots(self):
        self.same(
            [way_at(self.across, 1, EAST, NORTH) == Knot(), bool(way_at(typed("x * y"), 1, EAST, NORTH)),
             way_at(typed("0"), 1, EAST, EAST).word],
            [True, False, "knot"])
        self.refuses(Misfit("pose"), way_at, self.across, 1, EAST, EAST)


class TestWays(Case):
    def check(self, poly, radius, a, b):
        one, other = growths(poly, radius, a, b)
        paper = way_at(poly, radius, a, b)
        if one == other == 0:
            self.assertIs(type(paper), Knot)
            return "knot"
        self.assertIs(type(paper), Way)
        by_a, by_b, x, y = paper.parts
        self.same([type(by_a), type(by_b)], [int, int])
        self.same(one * by_a + other * by_b, Fraction(0))
        self.same(gcd(by_a, by_b), 1)
        self.same((by_a or by_b) > 0, True)
        (c, s), (u, v), r = turn_times(a, 2), turn_times(b, 2), fraction(radius)
        self.same(x, number(-2 * r * (s * by_a + v * by_b)))
        self.same(y, number(2 * r * (c * by_a + u * by_b)))
        p, q = sloped(poly, pen_of(radius, a, b))
        self.same(p * fraction(x) + q * fraction(y), Fraction(0))
        return "a" if other == 0 else "b" if one == 0 else "both"

    def test_each_place(self):
        seen = [self.check(*place) for place in some_places()]
        self.assertLess(10, min(seen.count(kind) for kind in ("knot", "both")))
        for kind in ("a", "b"):
            self.assertIn(kind, seen)

    def test_the_slopes_of_the_waves(self):
        # A and B are how fast the worth of the waves grows with a and with b.
        for poly, radius, a, b in list(some_places())[::3]:
            self.same(slopes_at(waves_of(poly, radius), a, b), tuple(map(number, growths(poly, radius, a, b))))

    def test_a_line_that_one_arm_meets_upright(self):
        # While the arm to the east turns by a small part its end does not leave the line: it alone turns.
        line = through(typed("x"), 1, THIRD, EAST)
        self.same(way_at(line, 1, THIRD, EAST).parts[:2], (0, 1))
        line = through(typed("x"), 1, EAST, THIRD)
        self.same(way_at(line, 1, EAST, THIRD).parts[:2], (1, 0))

    def test_arms_alike_and_opposite(self):
        line = through(typed("y"), 1, EAST, EAST)
        self.same(way_at(line, 1, EAST, EAST).parts, (1, -1, 0, 0))
        self.same(way_at(typed("y"), 1, EAST, NORTH).parts, (1, 1, 0, 0))
        self.same(way_at(through(typed("x"), 3, EAST, EAST), 3, EAST, EAST) == Knot(), True)
        # The circle of both arms, stretched out: all its points are where the arms point the same way.
        self.same(way_at(typed("x * x + y * y - 4"), 1, THIRD, THIRD) == Knot(), True)

    def test_knots_of_the_curve_itself(self):
        for a, b in ((EAST, THIRD), (THIRD, NORTH), (SOUTH, ((5, 13), (12, 13)))):
            line = through(typed("x - 2 * y"), 1, a, b)
            self.same(bool(way_at(line, 1, a, b)), True)
            self.same(way_at(poly_product(line, line), 1, a, b) == Knot(), True)
            self.same(way_at(typed("0"), (7, 2), a, b) == Knot(), True)

    def test_first_one_above_nothing(self):
        for poly, radius, a, b in list(some_places())[::4]:
            paper = way_at(poly, radius, a, b)
            self.same(way_at(poly_times(poly, -3), radius, a, b) == paper, True)
            other = way_at(poly, radius, b, a)
            if paper:
                self.same(sorted(map(abs, other.parts[:2])), sorted(map(abs, paper.parts[:2])))
                self.same((other.by_a or other.by_b) > 0, True)

    def test_lists_and_names(self):
        wanted = way_at(typed("x * x + y * y - 1"), (5, 6), EAST, ((3, 5), (-4, 5)))
        got = way_at(b=[[3, 5], [-4, 5]], a=[1, 0], radius=[5, 6], poly=typed("x * x + y * y - 1"))
        self.same((got.parts, got == wanted), (wanted.parts, True))


class TestErrors(Case):
    def test_in_order(self):
        for bad in NO_POLYS:
            self.refuses(BadPoly("poly"), way_at, bad, None, None, None)
        for bad in NO_LENGTHS:
            self.refuses(BadNumber("radius"), way_at, typed("x"), bad, None, None)
        for bad in NO_TURNS:
            self.refuses(BadTurn("a"), way_at, typed("x"), 1, bad, bad)
            self.refuses(BadTurn("b"), way_at, typed("x"), 1, EAST, bad)

    def test_off_the_curve(self):
        for poly in some_polys():
            for a, b in zip(some_turns(), some_turns()[4:]):
                if value_of(poly, pen_of(1, a, b)) != 0:
                    self.refuses(Misfit("pose"), way_at, poly, 1, a, b)
        self.refuses(Misfit("pose"), way_at, Poly([(0, 0, (1, 10 ** 39))]), 1, EAST, NORTH)


class TestPapers(Case):
    def test_parts_and_truth(self):
        for paper in (Way(1, [2], (3,), None), Way(y=None, x=[3], by_b=(2,), by_a=1)):
            self.same([paper.word, paper.parts, bool(paper)], ["way", (1, (2,), (3,), None), True])
            self.same([paper.by_a, paper.by_b, paper.x, paper.y], [1, (2,), (3,), None])
        self.same([Knot().word, Knot().parts, bool(Knot())], ["knot", (), False])
        self.same(
            [Way(1, 2, 3, 4) == Way(1, 2, 3, 4), Way(1, 2, 3, 4) == Way(1, 2, 3, 5), Knot() == Knot(),
             Knot() == Denial("knot"), Way(1, 2, 3, 4) == Paper("way", 1, 2, 3, 4)],
            [True, False, True, False, False])


if __name__ == "__main__":
    unittest.main()
