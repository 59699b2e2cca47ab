"""[15]: sketches."""

import time
import unittest
from fractions import Fraction

from helpers import NO_LENGTHS, NO_POLYS, Case, fraction, number, some_poly, value_of
from typedcurve.errors import BadNumber, BadPoly
from typedcurve.poly_texts import typed
from typedcurve.polys import Poly, poly_times, stretched
from typedcurve.sketches import sketch

RADII = [1, (5, 6), [3, 2], 2, (1, 7)]
NO_MANY = [0, -1, 41, 10 ** 40, True, False, None, 1.0, "1", (1, 2), (3, 2), (1,), [2], (), {}, object()]


def some_polys():
    polys = [typed(text) for text in (
        "0", "7", "-1/3", "x", "y", "x * x + y * y - 1", "x - y", "x * y", "x ^ 2 - 2 * y ^ 2", "y ^ 2 - x ^ 3",
        "x * x + y * y", "-1 * x")]
    return polys + [some_poly(9 * degree + many, degree, many) for degree in range(1, 7) for many in (2, 28)]


def told(poly, radius, many):
    """The rows, sign by sign as [15] tells them."""
    rows, r = [], fraction(radius)
    for i in range(2 * many + 1):
        row = ""
        for j in range(2 * many + 1):
            x, y = 2 * r * (j - many) / many, 2 * r * (many - i) / many
            if x * x + y * y > (2 * r) ** 2:
                row += " "
            else:
                off = value_of(poly, (number(x), number(y)))
                row += "+" if off > 0 else "-" if off < 0 else "0"
        rows.append(row)
    return tuple(rows)


class TestExamples(Case):
    def test_both(self):
        across, circle = typed("x"), typed("x * x + y * y - 1")
        self.same(
            [sketch(across, 1, 1), sketch(circle, (5, 6), many=2)],
            [(" 0 ", "-0+", " 0 "), ("  +  ", " +-+ ", "+---+", " +-+ ", "  +  ")])
        self.refuses(BadNumber("many"), sketch, across, 1, 0)


class TestSketches(Case):
    def test_sign_by_sign(self):
        for at, poly in enumerate(some_polys()):
            for many in (1, 2, 3, 5, 8):
                radius = RADII[(at + many) % 5]
                self.same(sketch(poly, radius, many), told(poly, radius, many))

    def test_40(self):
        for text in ("x * x + y * y - 1", "y ^ 2 - x ^ 3 + 1/7"):
            self.same(sketch(typed(text), (5, 6), 40), told(typed(text), (5, 6), 40))
        rows = sketch(typed("x"), 1, 40)
        self.same((len(rows), {len(row) for row in rows}), (81, {81}))
        self.same((rows[0], rows[40]), (" " * 40 + "0" + " " * 40, "-" * 40 + "0" + "+" * 40))

    def test_the_rim_is_within(self):
        # With 5 the points (3, 4) and so on stand just at the rim.
        rows = sketch(typed("7"), (1, 3), 5)
        for i in range(11):
            for j in range(11):
                self.same(rows[i][j], "+" if (i - 5) ** 2 + (j - 5) ** 2 <= 25 else " ")
        self.same(sketch(typed("x * x + y * y - 4"), 1, 5)[1], "  0-----0  ")

    def test_constants(self):
        for text, sign in (("0", "0"), ("1/999", "+"), ("-5", "-")):
            self.same(sketch(typed(text), 1, 1), (f" {sign} ", sign * 3, f" {sign} "))

    def test_stretched_alike(self):
        for poly in some_polys()[3:]:
            wanted = sketch(poly, (5, 6), 4)
            self.same(sketch(stretched(poly, (12, 5)), 2, 4), wanted)
            turned = [row.translate(str.maketrans("+-", "-+")) for row in wanted]
            self.same(sketch(poly_times(poly, (-1, 7)), (5, 6), 4), tuple(turned))

    def test_upward(self):
        self.same(sketch(typed("y"), (7, 2), 1), (" + ", "000", " - "))

    def test_lists_and_names(self):
        self.same(sketch(many=2, radius=[5, 6], poly=typed("x - y")), sketch(typed("x - y"), (5, 6), 2))


class TestErrors(Case):
    def test_in_order(self):
        for bad in NO_POLYS:
            self.refuses(BadPoly("poly"), sketch, bad, None, None)
        for bad in NO_LENGTHS:
            self.refuses(BadNumber("radius"), sketch, typed("x"), bad, None)
        for bad in NO_MANY:
            self.refuses(BadNumber("many"), sketch, typed("x"), 1, bad)


class TestShortTime(Case):
    def test_degree_4(self):
        poly = Poly([(i, j, number(Fraction(991 - 7 * i, 983 + 2 * j))) for i in range(5) for j in range(5 - i)])
        start = time.perf_counter()
        sketch(poly, (997, 991), 40)
        self.assertLess(time.perf_counter() - start, 2)


if __name__ == "__main__":
    unittest.main()
