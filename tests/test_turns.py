"""[9]: turns."""

import unittest
from fractions import Fraction

from helpers import NO_NUMBERS, NO_POINTS, NO_TURNS, Case, fraction, fractions, number, some_turns, turn_times
from typedcurve.errors import BadNumber, BadPoint, BadTurn
from typedcurve.turns import added, back_turn, by_half, doubled, half_of, multiplied, turn_between, turned

HALVES = [0, 1, -1, 2, (1, 2), (-1, 2), [3, 7], (-22, 7), 10 ** 40, (1, 10 ** 40 - 1), (10 ** 40 - 1, 10 ** 39)]


def as_turn(pair):
    """The turn of a pair of fractions."""
    return number(pair[0]), number(pair[1])


def all_turns():
    """Turns of all quarters, some with great numbers."""
    return some_turns() + [by_half(half) for half in HALVES[-3:]]


class TestExamples(Case):
    def test_steep(self):
        steep = by_half((1, 2))
        self.same(
            [steep, half_of(steep), half_of((-1, 0)), back_turn(steep), doubled(steep), multiplied(steep, 3)],
            [((3, 5), (4, 5)), (1, 2), None, ((3, 5), (-4, 5)), ((-7, 25), (24, 25)), ((-117, 125), (44, 125))])
        self.same(
            [added((0, 1), steep), turn_between(steep, (0, 1)), turned((1, 2), (0, 1)), multiplied(steep, 0),
            multiplied((0, 1), -3)],
            [((-4, 5), (3, 5)), ((4, 5), (3, 5)), (-2, 1), (1, 0), (0, 1)])
        self.refuses(BadNumber("many"), multiplied, steep, 61)


class TestTurns(Case):
    def test_added(self):
        for one in all_turns():
            for other in all_turns():
                (c, s), (d, t) = fractions(one), fractions(other)
                self.same(added(one, other), as_turn((c * d - s * t, s * d + c * t)))
                self.same(added(one, turn_between(one, other)), other)
                self.same(turn_between(one, other), as_turn((c * d + s * t, c * t - s * d)))
        self.same(added(other=[0, 1], one=[[3, 5], [4, 5]]), ((-4, 5), (3, 5)))
        self.same(turn_between(other=[0, 1], one=[[3, 5], [4, 5]]), ((4, 5), (3, 5)))

    def test_back_and_doubled(self):
        for turn in all_turns():
            c, s = fractions(turn)
            self.same(back_turn(turn), as_turn((c, -s)))
            self.same(added(turn, back_turn(turn)), (1, 0))
            self.same(doubled(turn), as_turn((c * c - s * s, 2 * s * c)))
        self.same(back_turn(turn=[[3, 5], [4, 5]]), ((3, 5), (-4, 5)))
        self.same(doubled(turn=[[3, 5], [4, 5]]), ((-7, 25), (24, 25)))

    def test_multiplied(self):
        for turn in some_turns():
            for many in range(-60, 61, 1 if turn[0] == (3, 5) else 12):
                self.same(multiplied(turn, many), as_turn(turn_times(turn, many)))
        for many in (1, -1, 60, -60):
            turn = by_half((10 ** 20 + 1, 10 ** 20))
            self.same(multiplied(turn, many), as_turn(turn_times(turn, many)))
        self.same(multiplied(many=1, turn=[[3, 5], [4, 5]]), ((3, 5), (4, 5)))

    def test_how_many_times(self):
        for many in (61, -61, 10 ** 9, -10 ** 40, (1, 2), True, False, None, 0.0, "1", [], [1], (1,)):
            self.refuses(BadNumber("many"), multiplied, (1, 0), many)

    def test_turned(self):
        for turn in all_turns():
            for point in ((0, 0), (1, 0), [0, 1], ((1, 2), (-3, 7)), [[-5, 2], 4]):
                (c, s), (x, y) = fractions(turn), fractions(point)
                self.same(turned(point, turn), as_turn((c * x - s * y, s * x + c * y)))
        self.same(turned(turn=[0, 1], point=[1, 2]), (-2, 1))
        self.same(turned([[1, 2], 3], (1, 0)), ((1, 2), 3))

    def test_what_was_passed_stays(self):
        one, other, point = [[3, 5], [4, 5]], [0, 1], [[1, 2], 3]
        for call in (added, turn_between):
            call(one, other)
        turned(point, one)
        multiplied(one, 5)
        self.same([one, other, point], [[[3, 5], [4, 5]], [0, 1], [[1, 2], 3]])


class TestHalves(Case):
    def test_there_and_back(self):
        for half in HALVES:
            n = fraction(half)
            turn = by_half(half)
            self.same(turn, as_turn(((1 - n * n) / (1 + n * n), 2 * n / (1 + n * n))))
            self.same(half_of(turn), number(n))
        for turn in all_turns():
            if turn != (-1, 0):
                self.same(by_half(half_of(turn)), turn)
        self.same([by_half(number=[1, 2]), half_of(turn=[[3, 5], [4, 5]])], [((3, 5), (4, 5)), (1, 2)])

    def test_few(self):
        self.same([by_half(0), by_half(1), by_half(-1)], [(1, 0), (0, 1), (0, -1)])
        self.same([half_of((1, 0)), half_of((0, 1)), half_of((0, -1))], [0, 1, -1])

    def test_straight_back(self):
        self.assertIsNone(half_of((-1, 0)))
        self.assertIsNone(half_of([-1, 0]))
        near = by_half(10 ** 40)
        self.assertNotEqual(near, (-1, 0))
        self.assertEqual(Fraction(half_of(near)), 10 ** 40)


class TestErrors(Case):
    def test_turns(self):
        for bad in NO_TURNS:
            for call in (added, turn_between):
                self.refuses(BadTurn("one"), call, bad, (1, 0))
                self.refuses(BadTurn("other"), call, (1, 0), bad)
                self.refuses(BadTurn("one"), call, bad, bad)
            for call in (back_turn, doubled, half_of):
                self.refuses(BadTurn("turn"), call, bad)
            self.refuses(BadTurn("turn"), multiplied, bad, 1)
            self.refuses(BadTurn("turn"), multiplied, bad, 61)
            self.refuses(BadTurn("turn"), turned, (0, 0), bad)

    def test_points(self):
        for bad in NO_POINTS:
            self.refuses(BadPoint("point"), turned, bad, (1, 0))
            self.refuses(BadPoint("point"), turned, bad, (1, 1))

    def test_numbers(self):
        for bad in NO_NUMBERS:
            self.refuses(BadNumber("number"), by_half, bad)


if __name__ == "__main__":
    unittest.main()
