"""[8]: places."""

import unittest
from fractions import Fraction
from itertools import product
from math import gcd, isqrt
from random import Random

from helpers import (
    NO_LENGTHS, NO_NUMBERS, NO_PLACES, NO_POINTS, NO_TURNS, Case, decimal, fraction, number, some_turns, spot,
    square_between)
from typedcurve.errors import BadNumber, BadPlace, BadPoint, BadTurn
from typedcurve.places import (
    are_kin, as_point, between, is_far, is_place, moved_place, place_of, stands_off)
from typedcurve.turns import back_turn, turned

LEFT, RIGHT, TOP = ((0, 0), (0, 0), 0), ((4, 0), (0, 0), 0), ((2, 0), (0, 1), 5)
PLACES = [
    LEFT, RIGHT, TOP, ((2, 0), (0, -1), 5), ((0, 0), (1, 0), 2), ((0, 0), (0, 1), 2), ((1, 0), (0, 1), 8),
    (((1, 2), (-3, 7)), (2, -3), 2), (((1, 2), (-3, 7)), (3, 2), 3), ((0, 0), (1, 1), (1, 2)),
    ((5, 5), (-1, 1), (9, 2)),
    [[0, [1, 2]], [1, -2], 12], ((0, 0), (1, 0), 3), (((1, 2), 0), (0, 0), 0), ((0, 0), (-2, 1), 6),
    ((0, 3), (2, 1), 6),
    ((0, 0), (1, 0), (5, 9)), ((10 ** 30, 1), (10 ** 20, 1), (10 ** 20 + 1, 10 ** 19)),
]
SHARES = [0, 1, (1, 2), -1, 2, (-2, 3), [5, 4], (1, 4)]


def is_square(value):
    """Whether a fraction from 0 on is the square of one."""
    return all(isqrt(part) ** 2 == part for part in (value.numerator, value.denominator))


def coefficients(one, other):
    """What stands in the square of the distance alone, with one root, with the other, with that of the product."""
    (p, a, r), (q, b, s) = [
        ([fraction(x) for x in point], aside, fraction(root)) for point, aside, root in (one, other)]
    way = [p[0] - q[0], p[1] - q[1]]

    def dot(u, v):
        return u[0] * v[0] + u[1] * v[1]

    return dot(way, way) + r * dot(a, a) + s * dot(b, b), 2 * dot(way, a), -2 * dot(way, b), -2 * dot(a, b), r, s


def naive_square(one, other):
    """The square of the distance, if it is a number, by what must be 0 in it."""
    whole, first, second, both, r, s = coefficients(one, other)
    if is_square(r):
        whole, first, both = whole + first * Fraction(isqrt(r.numerator), isqrt(r.denominator)), 0, 0
    if is_square(s):
        second = both = 0
    if r and s and is_square(r * s):
        # The root of s is some times that of r, and the root of the product is a number.
        root = Fraction(isqrt((r * s).numerator), isqrt((r * s).denominator))
        whole, first, second, both = whole + both * root, first + second * root / r, 0, 0
    return None if first or second or both else number(whole)


def fix(place):
    point, aside, root = place
    x, y = [tuple(part) if isinstance(part, list) else part for part in point]
    return (x, y), tuple(aside), tuple(root) if isinstance(root, list) else root


class TestExamples(Case):
    def test_place_of(self):
        self.same(
            [place_of((1, 1), (2, -4), (1, 4)), place_of((0, 0), (2, -4), 3), place_of([0, 0], ((1, 2), 0), 8),
             place_of(point=(5, 6), aside=(0, 0), root=7)],
            [((2, -1), (0, 0), 0), ((0, 0), (1, -2), 12), ((0, 0), (1, 0), 2), ((5, 6), (0, 0), 0)])

    def test_is_place(self):
        self.same(
            [is_place(((2, -1), (0, 0), 0)), is_place([[0, (1, 2)], [1, -2], 12]), is_place(((0, 0), (2, -4), 3)),
             is_place(((0, 0), (1, 0), (9, 4))), is_place(((0, 0), (0, 0), 2)), is_place(((0, 0), (1, 0), -2)),
             is_place(((1, 2), (1, 2)))],
            [True, True, False, False, False, False, False])

    def test_distances(self):
        left, right, top = LEFT, RIGHT, TOP
        self.same(
            [as_point(right), as_point(top), stands_off(left, top), stands_off(top, ((2, 0), (0, -1), 5)),
             is_far(top, right, 3), is_far(one=top, other=right, length=2)],
            [(4, 0), None, 9, 20, True, False])
        self.same(
            [stands_off(((0, 0), (0, 1), 2), ((1, 0), (0, 1), 8)), stands_off(((0, 0), (0, 1), 2), ((0, 0), (1, 0), 3)),
             stands_off(((0, 0), (0, 1), 2), ((1, 0), (1, 0), 3)), stands_off(top, top)],
            [3, 5, None, 0])

    def test_kin_and_between(self):
        left, top = LEFT, TOP
        self.same(
            [are_kin(((0, 0), (0, 1), 2), ((1, 0), (0, 1), 8)), are_kin(top, ((0, 0), (0, 1), 2)), are_kin(left, left)],
            [True, False, False])
        self.same(
            [between(left, top, (1, 2)), between(left, top, -1), between(top, ((2, 0), (0, -1), 5), (1, 2)),
             between(one=((0, 0), (0, 1), 2), other=((0, 0), (1, 0), 3), share=(1, 2)),
             between(((0, 0), (0, 1), 2), ((0, 0), (1, 0), 3), 1)],
            [((1, 0), (0, 1), (5, 4)), ((-2, 0), (0, -1), 5), ((2, 0), (0, 0), 0), None, ((0, 0), (1, 0), 3)])

    def test_moved(self):
        self.same(
            [moved_place(TOP, (0, 1), (1, 1)), moved_place(TOP, turn=((3, 5), (4, 5)), point=(0, 0))],
            [((1, 3), (-1, 0), 5), (((6, 5), (8, 5)), (-4, 3), (1, 5))])

    def test_errors(self):
        self.refuses(BadNumber("root"), place_of, (0, 0), (1, 0), -1)
        self.refuses(BadPlace("other"), stands_off, LEFT, ((0, 0), (2, 0), 3))


class TestIsPlace(Case):
    def test_places(self):
        for place in PLACES:
            self.same(is_place(place), True)
        self.same(is_place(value=TOP), True)
        for root in (2, 3, 8, 12, (1, 2), (2, 9), (9, 2), (4, 3), 10 ** 41, 10 ** 40 + 1):
            self.same(is_place(((0, 0), (1, 0), root)), True)

    def test_roots_that_are_squares(self):
        for root in (1, 4, 9, 16, (1, 4), (9, 4), (16, 25), 10 ** 40, (1, 10 ** 40)):
            self.same(is_place(((0, 0), (1, 0), root)), False)

    def test_asides(self):
        for i, j in product(range(-6, 7), repeat=2):
            self.same(is_place(((0, 0), (i, j), 2)), gcd(i, j) == 1)
            self.same(is_place([[0, 0], [i, j], 0]), (i, j) == (0, 0))

    def test_other_values(self):
        for bad in NO_PLACES:
            self.same(is_place(bad), False)
        for bad in NO_NUMBERS:
            self.same(is_place(((0, 0), (1, 0), bad)), False)
            self.same(is_place(((0, 0), (1, bad), 2)), False)
            self.same(is_place(((0, bad), (1, 0), 2)), False)
        for bad in NO_POINTS:
            self.same(is_place((bad, (0, 0), 0)), False)


class TestPlaceOf(Case):
    POINTS = [(0, 0), (1, -2), ((1, 2), (-3, 4)), [[5, 3], 7]]
    ASIDES = [(0, 0), (1, 0), (0, -3), (2, -4), (-6, -9), ((1, 2), (1, 3)), [[-3, 4], 6], ((5, 7), 0),
        (1, (1, 10 ** 20))]
    ROOTS = [0, 1, 4, 2, 3, 8, 12, 50, (1, 4), (9, 16), (1, 2), (8, 9), [3, 50], (7, 3), 10 ** 40, 10 ** 39]

    def test_one_form_of_one_spot(self):
        for point, aside, root in product(self.POINTS, self.ASIDES, self.ROOTS):
            place = place_of(point, aside, root)
            self.same([is_place(place), fix(place)], [True, place])
            (x, y), (i, j) = [[decimal(part) for part in pair] for pair in (point, aside)]
            step = spot(((0, 0), (1, 0), root))[0]
            got = spot(place)
            self.near(got[0], x + i * step)
            self.near(got[1], y + j * step)
            is_point = aside == (0, 0) or is_square(fraction(root))
            self.same(place[1:] == ((0, 0), 0), is_point)

    def test_told_otherwise(self):
        for aside, root in (((2, -4), 3), ((-1, 2), 12), ((1, -2), 12), (((2, 3), (-4, 3)), 27), ((4, -8), (3, 4))):
            sign = -1 if aside[0] == -1 else 1
            self.same(place_of((1, 1), aside, root), ((1, 1), (sign, -2 * sign), 12))

    def test_sides(self):
        self.same(
            [place_of((0, 0), (3, 3), 2), place_of((0, 0), (-3, -3), 2), place_of((0, 0), (-3, 3), 2)],
            [((0, 0), (1, 1), 18), ((0, 0), (-1, -1), 18), ((0, 0), (-1, 1), 18)])

    def test_places_again(self):
        for place in PLACES:
            point, aside, root = place
            self.same(place_of(point, aside, root), fix(place))

    def test_errors(self):
        for bad in NO_POINTS:
            self.refuses(BadPoint("point"), place_of, bad, bad, -1)
            self.refuses(BadPoint("aside"), place_of, (0, 0), bad, -1)
        for bad in NO_NUMBERS + [-1, (-1, 2), -10 ** 40]:
            self.refuses(BadNumber("root"), place_of, (0, 0), (0, 0), bad)


class TestAsPoint(Case):
    def test_points(self):
        self.same([as_point(LEFT), as_point([[[1, 2], 3], [0, 0], 0]), as_point(place=RIGHT)],
            [(0, 0), ((1, 2), 3), (4, 0)])
        for place in PLACES:
            self.same(as_point(place), fix(place)[0] if place[2] == 0 else None)

    def test_errors(self):
        for bad in NO_PLACES:
            self.refuses(BadPlace("place"), as_point, bad)


class TestDistances(Case):
    def check(self, one, other):
        got = stands_off(one, other)
        self.same(got, naive_square(one, other))
        self.same(stands_off(other, one), got)
        if got is not None:
            self.near(decimal(got), square_between(one, other))
            root = Fraction(*([got] if isinstance(got, int) else got))
            if is_square(root):
                length = number(Fraction(isqrt(root.numerator), isqrt(root.denominator)))
                self.same(is_far(one, other, length), True)
        for length in (0, 1, 3, (1, 2)):
            self.same(is_far(one, other, length), got == number(fraction(length) ** 2))

    def test_all_pairs(self):
        for one, other in product(PLACES, repeat=2):
            self.check(one, other)

    def test_some_pairs(self):
        random = Random(8)
        numbers = [0, 1, -1, 2, (1, 2), (-3, 2)]
        for _ in range(3000):
            one, other = [
                place_of((random.choice(numbers), random.choice(numbers)),
                (random.randint(-2, 2), random.randint(-2, 2)),
                         random.choice([0, 1, 2, 3, 6, 8, (1, 2), (4, 3)])) for _ in range(2)]
            self.check(one, other)

    def test_points(self):
        self.same(stands_off(((0, 0), (0, 0), 0), (((1, 2), (2, 3)), (0, 0), 0)), (25, 36))
        self.same(is_far(((0, 0), (0, 0), 0), (((1, 2), (2, 3)), (0, 0), 0), (5, 6)), True)

    def test_kin(self):
        one = ((0, 0), (1, 0), 2)
        self.same(stands_off(one, ((0, 0), (1, 0), 8)), 2)
        self.same(stands_off(one, ((0, 0), (-1, 0), 8)), 18)
        self.same(stands_off(one, ((1, 0), (1, 0), 8)), None)
        self.same(stands_off(one, ((0, 1), (1, 0), 8)), 3)
        self.same(stands_off(one, ((3, 4), (1, 0), 2)), 25)
        self.same(stands_off(one, ((3, 4), (-1, 0), 2)), None)

    def test_not_kin(self):
        one = ((0, 0), (1, 1), 2)
        self.same(stands_off(one, ((0, 0), (1, -1), 3)), 10)
        self.same(stands_off(one, ((0, 0), (1, 0), 3)), None)
        self.same(stands_off(one, ((1, -1), (1, -1), 3)), None)
        self.same(stands_off(one, ((1, 1), (1, -1), 3)), None)
        self.same(stands_off(((0, 0), (1, 0), 2), ((0, 5), (0, 1), 3)), None)
        self.same(stands_off(((0, 0), (1, 0), 2), ((5, 0), (0, 1), 3)), None)
        self.same(stands_off(((0, 0), (1, 0), 2), ((0, 5), (1, 0), 3)), None)

    def test_one_point(self):
        self.same(stands_off(((1, 2), (0, 0), 0), ((1, 5), (1, 0), 7)), 16)
        self.same(stands_off(((1, 2), (0, 0), 0), ((2, 5), (1, 0), 7)), None)
        self.same(stands_off(((1, 2), (0, 0), 0), ((4, 4), (2, -3), (1, 2))), (39, 2))

    def test_length_0(self):
        for one, other in product(PLACES, repeat=2):
            self.same(is_far(one, other, 0), fix(one) == fix(other))

    def test_errors(self):
        for bad in NO_PLACES:
            for call, rest in ((stands_off, ()), (is_far, (-1,)), (between, (None,)), (are_kin, ())):
                self.refuses(BadPlace("one"), call, bad, bad, *rest)
                self.refuses(BadPlace("other"), call, LEFT, bad, *rest)
        for bad in NO_LENGTHS:
            if bad != 0 or bad is False:
                self.refuses(BadNumber("length"), is_far, LEFT, TOP, bad)


class TestBetween(Case):
    def test_told_by_a_place(self):
        for one, other, share in product(PLACES, PLACES, SHARES):
            got = between(one, other, share)
            alike = 0 in (one[2], other[2]) or is_square(fraction(one[2]) * fraction(other[2]))
            if not alike:
                self.same(got, {0: fix(one), 1: fix(other)}.get(share if isinstance(share, int) else None))
                continue
            self.same([is_place(got), fix(got)], [True, got])
            (x, y), (u, v), (i, j) = spot(one), spot(other), spot(got)
            self.near(i, x + (u - x) * decimal(share))
            self.near(j, y + (v - y) * decimal(share))

    def test_ends(self):
        for one, other in product(PLACES, repeat=2):
            self.same([between(one, other, 0), between(one, other, 1)], [fix(one), fix(other)])

    def test_the_same_place(self):
        for place, share in product(PLACES, SHARES):
            self.same(between(place, place, share), fix(place))

    def test_not_kin(self):
        one, other = ((0, 0), (1, 0), 2), ((0, 0), (1, 0), 3)
        for share in ((1, 2), -1, 2, (1, 10 ** 40)):
            self.same([between(one, other, share), between(other, one, share)], [None, None])

    def test_asides_that_meet(self):
        one, other = ((0, 0), (1, 0), 2), ((4, 2), (-1, 0), 8)
        self.same(between(one, other, (1, 3)), (((4, 3), (2, 3)), (0, 0), 0))
        self.same(between(one, other, (1, 2)), ((2, 1), (-1, 0), (1, 2)))

    def test_errors(self):
        for bad in NO_NUMBERS:
            self.refuses(BadNumber("share"), between, LEFT, TOP, bad)


class TestKin(Case):
    def test_all_pairs(self):
        for one, other in product(PLACES, repeat=2):
            wanted = one[2] != 0 and other[2] != 0 and is_square(fraction(one[2]) * fraction(other[2]))
            self.same(are_kin(one, other), wanted)
        self.same(are_kin(one=((0, 0), (1, 0), (1, 2)), other=((7, 7), (0, 1), 8)), True)


class TestMoved(Case):
    def test_moved_and_back(self):
        for place, turn in product(PLACES, some_turns()):
            for point in ((0, 0), ((1, 2), -3), [4, [5, 7]]):
                got = moved_place(place, turn, point)
                self.same([is_place(got), fix(got)], [True, got])
                (x, y), (u, v), (c, s) = spot(got), spot(place), [decimal(part) for part in turn]
                self.near(x, c * u - s * v + decimal(point[0]))
                self.near(y, s * u + c * v + decimal(point[1]))
                back = turned(turned(point, (-1, 0)), back_turn(turn))
                self.same(moved_place(got, back_turn(turn), back), fix(place))

    def test_distances_stay(self):
        for one, other in product(PLACES[:10], repeat=2):
            turn, point = ((-20, 29), (21, 29)), ((1, 3), -7)
            self.same(
                stands_off(moved_place(one, turn, point), moved_place(other, turn, point)), stands_off(one, other))

    def test_errors(self):
        for bad in NO_PLACES:
            self.refuses(BadPlace("place"), moved_place, bad, None, None)
        for bad in NO_TURNS:
            self.refuses(BadTurn("turn"), moved_place, TOP, bad, None)
        for bad in NO_POINTS:
            self.refuses(BadPoint("point"), moved_place, TOP, (1, 0), bad)


class TestWhatWasPassed(Case):
    def test_stays(self):
        one, other = [[0, [1, 2]], [1, -2], 12], [[[5, 2], 0], [0, 0], 0]
        for call in (stands_off, are_kin):
            call(one, other)
        between(one, other, [1, 3])
        moved_place(one, [[3, 5], [4, 5]], [1, [1, 2]])
        self.same([one, other], [[[0, [1, 2]], [1, -2], 12], [[[5, 2], 0], [0, 0], 0]])
        self.same(as_point(other), ((5, 2), 0))


if __name__ == "__main__":
    unittest.main()
