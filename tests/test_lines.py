"""[4]: rows, their values, slopes, products and roots."""

import math
import time
import unittest
from decimal import Context, Decimal
from fractions import Fraction
from random import Random

from helpers import NO_NUMBERS, Case, fraction, fractions, number
from typedcurve.errors import BadNumber, Misfit, TooMany
from typedcurve.lines import count_roots, roots_of, row_product, slope_row, value_at
from typedcurve.numbers import is_below, minus, sign_of

NO_ROWS = [
    [], (), None, True, 7, (4, 2, True), "12", b"12", {}, {1: 2}, 0.5, [None], [1, "2"], [(4, 2)], [1, (0, 5)], [[]],
    [[1]],
    [0.0], ["1"], [0] * 26, [1] * 26, (1,) * 40, [((1, 2), 3)], object(), {1, 2}, range(3),
]
SURE = Context(prec=80)


def decimal(value):
    """A fraction with so many digits that near roots are told apart."""
    return SURE.divide(Decimal(value.numerator), Decimal(value.denominator))


def row_of(factors):
    """The row of a product of rows, by Python's fractions."""
    found = [Fraction(1)]
    for factor in factors:
        more = [Fraction(0)] * (len(found) + len(factor) - 1)
        for i, left in enumerate(found):
            for j, right in enumerate(factor):
                more[i + j] += left * Fraction(right)
        found = more
    return [number(value) for value in found]


def side_of(at, root):
    """1, 0 or -1, as a fraction is above, at or below the root middle + side times the root of square."""
    middle, side, square = root
    way = at - middle
    if side == 0:
        return (way > 0) - (way < 0)
    if way * side <= 0:
        return -side
    off = way * way - square
    return side * ((off > 0) - (off < 0))


class Known:
    """A row of which the roots are known: numbers, and pairs told by a middle and a square of the way."""

    def __init__(self, numbers, pairs=(), others=(), factor=1):
        factors = [[factor]] + [[-root, 1] for root in numbers] + [list(other) for other in others]
        factors += [[middle * middle - square, -2 * middle, 1] for middle, square in pairs]
        self.row = row_of(factors)
        roots = {(Fraction(root), 0, Fraction(0)) for root in numbers}
        for middle, square in pairs:
            for side in (-1, 1):
                roots.add((Fraction(middle), side, Fraction(square)))
        self.roots = sorted(roots, key=lambda root: SURE.add(decimal(root[0]), root[1] * SURE.sqrt(decimal(root[2]))))

    def between(self, low, high):
        """How many roots stand above low and below high."""
        return len([
            root for root in self.roots
            if (low is None or side_of(fraction(low), root) < 0) and (high is None or side_of(fraction(high),
            root) > 0)])


def known_rows():
    """Rows with all kinds of roots."""
    third, half = Fraction(1, 3), Fraction(1, 2)
    return [
        Known([0]), Known([half], factor=Fraction(-4, 7)), Known([0, 0, 0]), Known([0, 1, -1]),
        Known([1, 1, 2, 2, 2, -3]),
        Known([], [(0, 2)]), Known([], [(0, 2), (0, 3), (1, 2)]), Known([0, half, half], [(0, 2), (0, 2)], factor=-5),
        Known([Fraction(3, 2), Fraction(7, 5)], [(0, 2)]), Known([Fraction(141, 100), Fraction(142, 100)], [(0, 2)]),
        Known([Fraction(14142135, 10 ** 7), Fraction(14142136, 10 ** 7)], [(0, 2), (0, 2)]),
        Known([], [(third, Fraction(1, 5)), (third, Fraction(1, 5)), (half, Fraction(10 ** 6 + 1, 10 ** 6))]),
        Known([-third, third], [], [[1, 0, 1], [2, 1, 1]]), Known([], [], [[1, 0, 1]]), Known([], [], [[3]]),
        Known([5] * 12),
        Known([], [(0, 2), (0, Fraction(20001, 10000)), (0, Fraction(199999, 100000))]),
        Known([10 ** 6, -10 ** 6, Fraction(1, 10 ** 6)], [(10 ** 6, 2)]), Known(list(range(1, 13))),
        Known([-1, 2], [(-2, 7)], factor=9),
        Known([1, 2, 3], [(0, 2), (0, 5), (3, 7), (3, 7)], [[1, 0, 1]], Fraction(1, 6)),
    ]


class TestExamples(Case):
    def test_values(self):
        self.same(
            [value_at((5, 0, -2), 3), value_at([0, (1, 2)], number=(1, 3)), slope_row((5, 4, 3)), slope_row(row=[7]),
             row_product((1, 1), [1, -1]), row_product((0,), (1, 2, 3))],
            [-13, (1, 6), (4, 6), (0,), (1, 0, -1), (0, 0, 0)])

    def test_counts(self):
        self.same(
            [count_roots((-2, 0, 1), None, None), count_roots((-2, 0, 1), 0, None), count_roots((0, 1), 0, 5),
             count_roots((1, -2, 1), None, None), count_roots((3, 0), None, None), count_roots((0, 1), 5, -5)],
            [2, 1, 0, 1, 0, 0])

    def test_boxes(self):
        self.same(
            [roots_of((0, -1, 0, 4), 1), roots_of((1, 0, 1), 1), roots_of([0, 0, (1, 3)], near=1)],
            [(((-1, 2), (-1, 2)), (0, 0), ((1, 2), (1, 2))), (), ((0, 0),)])
        boxes = roots_of((-2, 0, 1), (1, 100))
        self.same(
            [len(boxes), [sign_of(value_at((-2, 0, 1), end)) for end in boxes[1]],
             [is_below((1, 100), minus(high, low)) for low, high in boxes]],
            [2, [-1, 1], [False, False]])

    def test_errors(self):
        self.refuses(BadNumber("row"), value_at, [], 1)
        self.refuses(BadNumber("low"), count_roots, (0, 0), "low", 1)
        self.refuses(Misfit("row"), roots_of, (0, 0), 1)
        self.refuses(BadNumber("near"), roots_of, (0, 1), 0)


class TestRows(Case):
    def some_rows(self):
        random = Random(4)
        rows = [[0], [7], [(1, 2)], [0, 0, 0], [0, 0, (1, 3)], [5, 0, 0, -2, 0], [(1, 2), 0, (-3, 4), 0, 0]]
        for many in range(1, 26):
            rows.append([number(Fraction(random.randint(-9, 9), random.randint(1, 6))) for _ in range(many)])
        return rows

    def test_values(self):
        for row in self.some_rows():
            for at in (0, 1, -1, 2, (1, 2), (-2, 3), [7, 5]):
                wanted = sum(fraction(factor) * fraction(at) ** power for power, factor in enumerate(row))
                self.same(value_at(row, at), number(wanted))
                self.same(value_at(number=at, row=tuple(row)), number(wanted))

    def test_slopes(self):
        for row in self.some_rows():
            wanted = tuple(number(power * fraction(factor)) for power, factor in enumerate(row))[1:]
            self.same(slope_row(row), wanted if len(row) > 1 else (0,))
            self.same(slope_row(tuple(row)), slope_row(row))
        self.same(slope_row([5, [1, 2]]), ((1, 2),))
        self.same(slope_row([(1, 2)]), (0,))

    def test_products(self):
        rows = self.some_rows()
        for one in rows:
            for other in rows:
                if len(one) + len(other) > 26:
                    self.refuses(TooMany("numbers", 25), row_product, one, other)
                else:
                    self.same(row_product(one, tuple(other)), tuple(row_of([fractions(one), fractions(other)])))
        self.same(row_product(other=[1, [1, 2]], one=(2,)), (2, 1))

    def test_products_of_25_and_26_numbers(self):
        self.same(len(row_product([0] * 13, [1] * 13)), 25)
        self.same(row_product([2], [1] * 25), (2,) * 25)
        self.refuses(TooMany("numbers", 25), row_product, [0] * 13, [0] * 14)
        self.refuses(TooMany("numbers", 25), row_product, [1] * 25, [1, 0])
        self.refuses(TooMany("numbers", 25), row_product, [1] * 25, [1] * 25)

    def test_what_was_passed_stays(self):
        row, other = [1, [1, 2], 0], [[3, 4]]
        value_at(row, [1, 2])
        slope_row(row)
        row_product(row, other)
        count_roots(row, None, None)
        roots_of(row, 1)
        self.same([row, other], [[1, [1, 2], 0], [[3, 4]]])

    def test_errors(self):
        for row in NO_ROWS:
            self.refuses(BadNumber("row"), value_at, row, 1)
            self.refuses(BadNumber("row"), value_at, row, None)
            self.refuses(BadNumber("row"), slope_row, row)
            self.refuses(BadNumber("one"), row_product, row, [1])
            self.refuses(BadNumber("other"), row_product, [1], row)
            self.refuses(BadNumber("one"), row_product, row, row)
            self.refuses(BadNumber("other"), row_product, [1] * 25, row)
        for value in NO_NUMBERS:
            self.refuses(BadNumber("number"), value_at, [0, 1], value)
            self.refuses(BadNumber("row"), value_at, [0, value], value)
            self.refuses(BadNumber("row"), slope_row, [value])


class TestCounts(Case):
    def test_known_roots(self):
        for known in known_rows():
            bounds = [None, 0, 1, -1, (1, 2), (1, 3), (7, 5), (3, 2), (-7, 5), 2, 3, 5, 10 ** 6, -10 ** 7,
                [1, 10 ** 6], (141421, 10 ** 5)]
            bounds += [number(root[0] + shift) for root in known.roots[:3] for shift in (0, Fraction(-1, 7),
                Fraction(1, 9))]
            for low in bounds:
                for high in bounds:
                    self.same(count_roots(known.row, low, high), known.between(low, high))

    def test_bounds_at_roots(self):
        row = row_of([[-1, 1], [-1, 1], [-2, 1], [-3, 1]])
        self.same([count_roots(row, 1, 3), count_roots(row, 1, 2), count_roots(row, 2, 2), count_roots(row, None, 1)],
            [1, 0, 0, 0])
        self.same([count_roots(row, 1, None), count_roots(row, 3, None), count_roots(row, None, 3),
            count_roots(row, 0, 1)], [2, 0, 2, 0])

    def test_0s_at_both_ends(self):
        row = [0, 0, 0, -2, 0, 1, 0, 0]
        self.same([count_roots(row, None, None), count_roots(row, 0, None), count_roots(row, None, 0),
            count_roots(row, -1, 1)], [3, 1, 1, 1])

    def test_rows_of_one_number(self):
        for value in (5, -5, (1, 2)):
            for low in (None, 0, 7):
                self.same(count_roots([value], low, 3), 0)
                self.same(count_roots([value, 0, 0], low, None), 0)

    def test_names_and_lists(self):
        self.same(count_roots(high=[3, 2], low=[1, 2], row=[-1, 1]), 1)

    def test_errors(self):
        for value in NO_NUMBERS:
            if value is not None:
                self.refuses(BadNumber("low"), count_roots, (0, 1), value, value)
                self.refuses(BadNumber("low"), count_roots, (0, 0), value, 1)
                self.refuses(BadNumber("high"), count_roots, (0, 1), None, value)
                self.refuses(BadNumber("high"), count_roots, (0, 0), 1, value)
        for row in NO_ROWS:
            self.refuses(BadNumber("row"), count_roots, row, "low", "high")
            self.refuses(BadNumber("row"), count_roots, row, None, None)
        for row in ([0], (0, 0, 0), [0] * 25):
            self.refuses(Misfit("row"), count_roots, row, None, None)
            self.refuses(Misfit("row"), count_roots, row, 5, -5)


class TestBoxes(Case):
    def boxes_are_right(self, known, near):
        boxes = roots_of(known.row, near)
        self.assertIs(type(boxes), tuple)
        self.assertEqual(len(boxes), len(known.roots))
        for box, root in zip(boxes, known.roots):
            self.assertIs(type(box), tuple)
            low, high = map(fraction, box)
            self.same(box, (number(low), number(high)))
            if root[1] == 0:
                self.assertEqual((low, high), (root[0], root[0]))
            else:
                self.assertEqual((side_of(low, root), side_of(high, root)), (-1, 1))
                self.assertLessEqual(high - low, fraction(near))
                for other in known.roots:
                    if other != root:
                        self.assertNotEqual(side_of(low, other) * side_of(high, other), -1)
                        self.assertNotEqual(0, side_of(low, other) * side_of(high, other))

    def test_known_roots(self):
        for known in known_rows():
            for near in (1000, 1, (1, 3), [1, 10 ** 12]):
                self.boxes_are_right(known, near)

    def test_random_known_roots(self):
        random = Random(41)
        for _ in range(40):
            numbers = [Fraction(random.randint(-20, 20), random.randint(1, 9)) for _ in range(random.randint(0, 4))]
            pairs = [
                (Fraction(random.randint(-9, 9), 4),
                Fraction(random.choice([2, 3, 5, 7, 10]), random.randint(1, 3) ** 2))
                for _ in range(random.randint(0, 3))]
            self.boxes_are_right(Known(numbers, pairs, [[1, 1, 1]] * random.randint(0, 1),
                random.choice([1, -1, Fraction(2, 9)])), (1, 50))

    def test_all_small_numbers_as_roots(self):
        for below in range(1, 12):
            for above in range(-70, 71):
                root = number(Fraction(above, below))
                self.same(roots_of((number(Fraction(-above, below)), 1), 1), ((root, root),))
                self.same(roots_of((-above, below), 1), ((root, root),))

    def test_very_near_roots(self):
        square = Fraction(2 * 10 ** 20 + 1, 10 ** 20)
        self.boxes_are_right(Known([], [(0, 2), (0, square)]), 1)
        below = Fraction(14142135623730950488, 10 ** 19)
        self.boxes_are_right(Known([below, below + Fraction(1, 10 ** 19)], [(0, 2)]), 100)

    def test_roots_of_greater_degree(self):
        # The cosines of the odd parts of a quarter turn; but 0 none of them is a number.
        before, row = [1], [0, 1]
        for many in range(2, 13):
            before, row = row, [number(2 * a - b) for a, b in zip([0] + row, before + [0, 0])]
            boxes = roots_of(row, (1, 10 ** 12))
            wanted = sorted(math.cos(math.pi * (2 * at + 1) / (2 * many)) for at in range(many))
            self.assertEqual(len(boxes), many)
            for (low, high), root in zip(boxes, wanted):
                self.assertAlmostEqual(float(fraction(low)), root, delta=1e-9)
                self.assertAlmostEqual(float(fraction(high)), root, delta=1e-9)
                if abs(root) < 1e-9:
                    self.assertEqual((low, high), (0, 0))
                else:
                    self.assertLess(fraction(low), fraction(high))
                    self.assertEqual(sign_of(value_at(row, low)), -sign_of(value_at(row, high)))

    def test_0s_at_both_ends(self):
        self.same(roots_of([0, 0, -3, 2, 0, 0], 1), ((0, 0), ((3, 2), (3, 2))))
        boxes = roots_of([0, -2, 0, 1, 0], 1000)
        self.assertEqual(boxes[1], (0, 0))
        self.assertTrue(fraction(boxes[0][1]) < 0 < fraction(boxes[2][0]))

    def test_rows_of_one_number(self):
        self.same([roots_of([5], 1), roots_of(((-1, 2),), 1), roots_of([3, 0, 0], 1)], [(), (), ()])

    def test_told_again_the_same(self):
        for known in known_rows():
            first = roots_of(known.row, (1, 7))
            self.same(roots_of(tuple(known.row), [1, 7]), first)
            self.same(roots_of(near=(1, 7), row=list(known.row)), first)

    def test_what_is_returned_may_be_changed_by_nobody(self):
        row = [[-1, 2], 1]
        boxes = roots_of(row, 1)
        row[0][0] = 3
        self.same(boxes, (((1, 2), (1, 2)),))

    def test_errors(self):
        for row in NO_ROWS:
            self.refuses(BadNumber("row"), roots_of, row, 1)
            self.refuses(BadNumber("row"), roots_of, row, 0)
        for near in NO_NUMBERS + [0, -1, (-1, 2), -10 ** 12]:
            self.refuses(BadNumber("near"), roots_of, (0, 1), near)
            self.refuses(BadNumber("near"), roots_of, (0, 0), near)
        for row in ([0], (0, 0, 0), [0] * 25):
            self.refuses(Misfit("row"), roots_of, row, 1)


class TestTime(Case):
    """Both are promised in a short time for rows of 13 numbers with 12 digits above and below."""

    def soon(self, row, many=None):
        start = time.perf_counter()
        boxes = roots_of(row, (1, 10 ** 12))
        self.assertEqual(count_roots(row, None, None), len(boxes))
        self.assertLess(time.perf_counter() - start, 5)
        if many is not None:
            self.assertEqual(len(boxes), many)
        for low, high in boxes:
            self.assertLessEqual(fraction(high) - fraction(low), Fraction(1, 10 ** 12))
            if low == high:
                self.assertEqual(value_at(row, low), 0)

    def test_great_numbers(self):
        random = Random(12)
        for _ in range(5):
            self.soon([
                number(Fraction(random.randint(-10 ** 12 + 1, 10 ** 12 - 1), random.randint(10 ** 11, 10 ** 12 - 1)))
                for _ in range(13)])

    def test_near_roots(self):
        great = 10 ** 6 - 1
        self.soon([-1, 2 * great, -great * great] + [0] * 9 + [1], 4)
        self.soon([0] * 6 + [-2 * 10 ** 11, 0, 10 ** 11 + 7] + [0] * 4, 3)

    def test_many_roots(self):
        self.soon(row_of([[-at, 97] for at in range(1, 13)]), 12)
        self.soon(row_of([[-at * at - 1, 0, 97] for at in range(1, 7)]), 12)


if __name__ == "__main__":
    unittest.main()
