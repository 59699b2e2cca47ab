"""[2]: what is an integer, a number, a point, a turn."""

import unittest
from math import gcd

from helpers import NO_NUMBERS, NO_POINTS, NO_TURNS, Case, some_turns
from typedcurve.checks import is_integer, is_number, is_point, is_turn, is_within

NO_INTEGERS = [True, False, None, 0.0, 1.5, "1", b"1", "", [], [1], (1,), (1, 2), {}, {1}, 1j, object(), int]


class TestExamples(Case):
    def test_numbers(self):
        self.same(
            [is_integer(True), is_within(3, None, 3), is_number(-7), is_number([-7, 2]), is_number((4, 2)),
             is_number((3, 1)), is_number((1, -2)), is_number((0, 5)), is_number(0.5)],
            [False, True, True, True, False, False, False, False, False])

    def test_points(self):
        self.same(
            [is_point((1, (1, 2))), is_point([0, 0]), is_point((1, 2)), is_point(((1, 2), 3)), is_point((1, True)),
             is_point((1, 2, 3))],
            [True, True, True, True, False, False])

    def test_turns(self):
        self.same(
            [is_turn((1, 0)), is_turn([(3, 5), (-4, 5)]), is_turn((0, 0)), is_turn(((1, 2), (1, 2)))],
            [True, True, False, False])


class TestIntegers(Case):
    def test_integers(self):
        for value in (0, 1, -1, 10 ** 400, -10 ** 400):
            self.same(is_integer(value), True)
        self.same(is_integer(value=5), True)

    def test_other_values(self):
        for value in NO_INTEGERS:
            self.same(is_integer(value), False)

    def test_bounds(self):
        for value in range(-4, 5):
            self.same(is_within(value, -2, 3), -2 <= value <= 3)
            self.same(is_within(value, None, 3), value <= 3)
            self.same(is_within(value, -2, None), value >= -2)
            self.same(is_within(value, None, None), True)
            self.same(is_within(value, 2, -2), False)
            self.same(is_within(value, 0, None), value >= 0)
            self.same(is_within(value, None, 0), value <= 0)
        self.same(is_within(most=3, least=3, value=3), True)
        self.same(is_within(10 ** 60, 0, 10 ** 60 - 1), False)

    def test_other_values_within_bounds(self):
        for value in NO_INTEGERS:
            for least, most in ((None, None), (0, 5), (None, 5), (0, None)):
                self.same(is_within(value, least, most), False)


class TestNumbers(Case):
    def test_just_one_form(self):
        for above in range(-30, 31):
            self.same(is_number(above), True)
            for below in range(-3, 31):
                wanted = below >= 2 and gcd(above, below) == 1
                self.same(is_number((above, below)), wanted)
                self.same(is_number([above, below]), wanted)

    def test_great_numbers(self):
        great = 10 ** 40
        self.same(is_number((great + 1, great)), True)
        self.same(is_number((-great - 1, great)), True)
        self.same(is_number((3 * great, 3 * great + 3)), False)
        self.same(is_number(value=10 ** 80), True)

    def test_other_values(self):
        for value in NO_NUMBERS:
            self.same(is_number(value), False)


class TestPoints(Case):
    def test_points(self):
        for value in [(0, 0), [1, -1], ((1, 2), (-3, 7)), [[1, 2], [2, 3]], (0, (1, 2)), ((5, 2), 3), [(1, 2), 0]]:
            self.same(is_point(value), True)
        self.same(is_point(value=(1, 2)), True)

    def test_other_values(self):
        for value in NO_POINTS:
            self.same(is_point(value), False)
        for value in NO_NUMBERS:
            self.same(is_point((value, 1)), False)
            self.same(is_point([0, value]), False)

    def test_number_and_point(self):
        self.same([is_number((1, 2)), is_point((1, 2))], [True, True])
        self.same([is_number((4, 2)), is_point((4, 2))], [False, True])
        self.same([is_number((0, 5)), is_point((0, 5))], [False, True])


class TestTurns(Case):
    def test_turns(self):
        for cosine, sine in some_turns():
            self.same(is_turn((cosine, sine)), True)
            self.same(is_turn([sine, cosine]), True)
        self.same(is_turn([[3, 5], [4, 5]]), True)
        self.same(is_turn(value=(0, 1)), True)

    def test_great_turns(self):
        n = 10 ** 19 + 1
        below = n * n + 4
        self.same(is_turn(((n * n - 4, below), (4 * n, below))), True)
        self.same(is_turn(((n * n - 4, below), (4 * n + 1, below))), False)
        self.same(is_turn(((10 ** 40 - 1, 10 ** 40), 0)), False)

    def test_other_values(self):
        for value in NO_TURNS:
            self.same(is_turn(value), False)
        for value in NO_NUMBERS:
            self.same(is_turn((value, 0)), False)
            self.same(is_turn((0, value)), False)


if __name__ == "__main__":
    unittest.main()
