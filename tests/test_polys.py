"""[5]: polynomials, their values, slopes, and what is put in, moved, turned, stretched."""

import unittest
from fractions import Fraction
from random import Random

from helpers import NO_NUMBERS, NO_POINTS, NO_POLYS, NO_TURNS, Case, fraction, fractions, number, some_turns
from typedcurve.errors import BadNumber, BadPoint, BadPoly, BadTurn, TooMany
from typedcurve.polys import (
    Poly, moved, poly_product, poly_sum, poly_times, put_in, slope, stretched, turned_poly, value)

POINTS = [(0, 0), (1, 0), [0, 1], ((1, 2), (-2, 3)), [-3, [7, 5]], ((10, 7), 4)]
EAST, NORTH, ROUGH = Poly([(1, 0, 1)]), Poly([(0, 1, 1)]), Poly([(0, 1, (-1, 2)), [2, 1, 3], (0, 0, 4)])


def naive(poly, x, y):
    """The value by Python's fractions."""
    return sum((fraction(factor) * x ** i * y ** j for i, j, factor in poly.terms), Fraction(0))


def some_polys(seed=5, most=6):
    """Polynomials of all degrees, full ones and sparse ones."""
    random = Random(seed)
    polys = [Poly(()), Poly([(0, 0, 7)]), Poly([(0, 0, (-1, 3))]), EAST, NORTH, ROUGH]
    for degree in range(most + 1):
        for part in (1, 3):
            polys.append(Poly([
                (i, j, number(Fraction(random.choice([-7, -2, -1, 1, 3, 5]), random.randint(1, 4))))
                for i in range(degree + 1) for j in range(degree + 1 - i) if random.randrange(part) == 0]))
    return [poly for poly in polys if poly.degree <= most]


class TestExamples(Case):
    def test_polys(self):
        self.same(
            [ROUGH.terms, ROUGH.degree, Poly(()).degree, ROUGH == Poly(((2, 1, 3), (0, 0, 4), (0, 1, [-1, 2])))],
            [((0, 0, 4), (0, 1, (-1, 2)), (2, 1, 3)), 3, 0, True])
        self.same([value(ROUGH, (2, 1)), value(ROUGH, ((1, 2), 0)), value(Poly([]), (9, 9))], [(31, 2), 4, 0])

    def test_sums_and_products(self):
        self.same(
            [poly_sum(ROUGH, poly_times(ROUGH, -1)).terms, poly_product(EAST, poly_sum(EAST, NORTH)).terms],
            [(), ((1, 1, 1), (2, 0, 1))])

    def test_slopes_and_put_in(self):
        self.same(
            [slope(ROUGH, "x").terms, slope(ROUGH, "y").terms,
             put_in(poly_product(EAST, NORTH), poly_sum(EAST, NORTH), EAST).terms],
            [((1, 1, 6),), ((0, 0, (-1, 2)), (2, 0, 3)), ((1, 1, 1), (2, 0, 1))])

    def test_moves(self):
        self.same(
            [moved(EAST, (1, 0)).terms, turned_poly(EAST, (0, 1)).terms, stretched(EAST, 2).terms],
            [((0, 0, -1), (1, 0, 1)), ((0, 1, 1),), ((1, 0, (1, 2)),)])

    def test_errors(self):
        self.refuses(BadPoly("terms"), Poly, [(4, 3, 1)])
        self.refuses(TooMany("degree", 6), poly_product, Poly([(4, 0, 1)]), Poly([(0, 3, 1)]))
        self.refuses(BadNumber("number"), stretched, EAST, 0)


class TestPoly(Case):
    def test_terms_in_any_order(self):
        terms = [(0, 0, 4), (0, 1, (-1, 2)), (0, 3, 1), (1, 0, -9), (1, 2, 7), (2, 0, (1, 2)), (2, 1, 3), (6, 0, 1)]
        random = Random(1)
        for _ in range(20):
            random.shuffle(terms)
            poly = Poly([list(term) for term in terms])
            self.same(poly.terms, tuple(sorted(terms, key=lambda term: term[:2])))
            self.same(poly == Poly(tuple(terms)), True)
        self.same(Poly(terms=[[1, 0, [1, 2]]]).terms, ((1, 0, (1, 2)),))

    def test_degree(self):
        self.same([Poly([]).degree, Poly([(0, 0, 5)]).degree, Poly([(0, 6, 1)]).degree, Poly([(6, 0, 1)]).degree],
            [0, 0, 6, 6])
        self.same(Poly([(3, 0, 1), (1, 1, 1), (0, 2, 1)]).degree, 3)
        self.same(Poly([(1, 0, 1), (0, 2, 1)]).degree, 2)
        self.same(Poly([(2, 0, 1), (1, 3, 1), (0, 3, 1)]).degree, 4)

    def test_equal(self):
        self.same(Poly([]) == Poly(()), True)
        self.same(Poly([(1, 0, 1)]) == Poly([(1, 0, 2)]), False)
        self.same(Poly([(1, 0, 1)]) == Poly([(0, 1, 1)]), False)
        self.same(Poly([(1, 0, 1)]) == Poly([(1, 0, 1), (0, 0, 1)]), False)
        self.same(Poly([(1, 0, 1)]) != Poly([(1, 0, 2)]), True)
        self.same(Poly([(1, 0, 1)]) != Poly([[1, 0, 1]]), False)
        for other in (None, 0, (), ((1, 0, 1),), "1 x", EAST.terms, object()):
            self.same([EAST == other, other == EAST, EAST != other], [False, False, True])

    def test_terms_that_are_none(self):
        good = (1, 1, 1)
        for term in (
                (4, 3, 1), (7, 0, 1), (0, 7, 1), (-1, 0, 1), (0, -1, 1), (-1, 3, 1), (3, -1, 1), (0, 0, 0), (1, 0, 0),
                (True, 0, 1),
                (0, True, 1), (0, False, 1), (0, 0, True), (0, 0, (4, 2)), (0, 0, (3, 1)), (0, 0, None), (0, 0, 0.5),
                (0, 0, "1"),
                ("0", 0, 1), (0, None, 1), (0.0, 0, 1), ((1, 2), 0, 1), (0, 0), (0, 0, 1, 1), (), [], [0], "001",
                None, 7, {}, {0: 0}):
            for terms in ([term], (term,), [good, term], [term, good]):
                self.refuses(BadPoly("terms"), Poly, terms)
        for value_ in NO_NUMBERS:
            self.refuses(BadPoly("terms"), Poly, [(0, 1, value_)])
            self.refuses(BadPoly("terms"), Poly, [(value_, 1, 1)])
            self.refuses(BadPoly("terms"), Poly, [(1, value_, 1)])

    def test_terms_told_twice(self):
        self.refuses(BadPoly("terms"), Poly, [(1, 0, 1), (1, 0, 1)])
        self.refuses(BadPoly("terms"), Poly, [(1, 0, 1), (0, 1, 1), [1, 0, -1]])

    def test_values_that_are_no_lists(self):
        for terms in (None, True, 0, 1, "", "x", {}, {(0, 0, 1): 1}, {(0, 0, 1)}, 0.5, EAST, object(),
            iter([(0, 0, 1)])):
            self.refuses(BadPoly("terms"), Poly, terms)

    def test_what_was_passed_may_change(self):
        inner = [0, 1, [-1, 2]]
        terms = [inner, (0, 0, 4)]
        poly = Poly(terms)
        self.same(terms, [[0, 1, [-1, 2]], (0, 0, 4)])
        inner[2][0] = 5
        inner[0] = 3
        terms.append((1, 0, 1))
        self.same([poly.terms, poly.degree], [((0, 0, 4), (0, 1, (-1, 2))), 1])


class TestArithmetic(Case):
    def at_points(self, poly, wanted):
        """The polynomial is right in form, and has the wanted value at some points."""
        self.same(Poly(poly.terms).terms, poly.terms)
        for x, y in [fractions(point) for point in POINTS]:
            self.assertEqual(naive(poly, x, y), wanted(x, y))

    def test_values(self):
        for poly in some_polys():
            for point in POINTS:
                self.same(value(poly, point), number(naive(poly, *fractions(point))))
        self.same(value(point=[[1, 2], 0], poly=EAST), (1, 2))

    def test_sums(self):
        for one in some_polys():
            for other in some_polys(6):
                self.at_points(poly_sum(one, other), lambda x, y: naive(one, x, y) + naive(other, x, y))
        self.same(poly_sum(other=NORTH, one=EAST).terms, ((0, 1, 1), (1, 0, 1)))

    def test_multiples(self):
        for poly in some_polys():
            for factor in (0, 1, -1, (1, 2), [-7, 3]):
                self.at_points(poly_times(poly, factor), lambda x, y: fraction(factor) * naive(poly, x, y))
            self.same(poly_times(number=0, poly=poly).terms, ())

    def test_products(self):
        for one in some_polys():
            for other in some_polys(7):
                if one.terms and other.terms and one.degree + other.degree > 6:
                    self.refuses(TooMany("degree", 6), poly_product, one, other)
                else:
                    self.at_points(poly_product(one, other), lambda x, y: naive(one, x, y) * naive(other, x, y))

    def test_degrees_of_products(self):
        full = Poly([(6, 0, 1)])
        self.same(poly_product(full, Poly(())).terms, ())
        self.same(poly_product(Poly(()), full).terms, ())
        self.same(poly_product(full, Poly([(0, 0, 2)])).terms, ((6, 0, 2),))
        self.same(poly_product(one=Poly([(3, 0, 1)]), other=Poly([(0, 3, 1)])).terms, ((3, 3, 1),))
        self.refuses(TooMany("degree", 6), poly_product, full, EAST)
        self.refuses(TooMany("degree", 6), poly_product, NORTH, full)
        self.refuses(TooMany("degree", 6), poly_product, full, full)

    def test_slopes(self):
        for poly in some_polys():
            by_x = sorted((i - 1, j, number(i * fraction(factor))) for i, j, factor in poly.terms if i)
            by_y = sorted((i, j - 1, number(j * fraction(factor))) for i, j, factor in poly.terms if j)
            self.same(slope(poly, "x").terms, tuple(by_x))
            self.same(slope(unknown="y", poly=poly).terms, tuple(by_y))

    def test_what_was_passed_stays(self):
        poly, point = Poly([(1, 1, (1, 2)), (0, 0, 3)]), [[1, 2], 3]
        for call in (value, moved):
            call(poly, point)
        put_in(poly, poly, EAST)
        self.same([poly.terms, point], [((0, 0, 3), (1, 1, (1, 2))), [[1, 2], 3]])


class TestPutIn(Case):
    def test_values(self):
        for poly in some_polys(8, 3):
            for one in some_polys(9, 2):
                for other in some_polys(10, 2):
                    if max([i * one.degree + j * other.degree for i, j, _ in poly.terms], default=0) > 6:
                        self.refuses(TooMany("degree", 6), put_in, poly, one, other)
                        continue
                    got = put_in(poly, one, other)
                    self.same(Poly(got.terms).terms, got.terms)
                    for x, y in ((Fraction(2), Fraction(-1)), (Fraction(1, 2), Fraction(3))):
                        self.assertEqual(naive(got, x, y), naive(poly, naive(one, x, y), naive(other, x, y)))

    def test_degrees(self):
        full, both = Poly([(6, 0, 1)]), Poly([(1, 1, 1)])
        self.same(put_in(full, Poly([(0, 0, 2)]), full).terms, ((0, 0, 64),))
        self.same(put_in(full, NORTH, full).terms, ((0, 6, 1),))
        self.same(put_in(Poly(()), full, full).terms, ())
        self.same(put_in(Poly([(0, 0, 5)]), full, full).terms, ((0, 0, 5),))
        self.same(put_in(Poly([(0, 3, 1)]), full, Poly([(2, 0, 1)])).terms, ((6, 0, 1),))
        self.same(put_in(both, Poly([(2, 0, 1)]), Poly([(0, 4, 1)])).terms, ((2, 4, 1),))
        self.refuses(TooMany("degree", 6), put_in, both, Poly([(3, 0, 1)]), Poly([(0, 4, 1)]))
        self.refuses(TooMany("degree", 6), put_in, Poly([(2, 0, 1)]), Poly([(4, 0, 1)]), NORTH)
        self.refuses(TooMany("degree", 6), put_in, Poly([(0, 2, 1)]), EAST, Poly([(0, 4, 1)]))
        self.same(put_in(both, Poly(()), full).terms, ())
        self.refuses(TooMany("degree", 6), put_in, Poly([(1, 2, 1)]), Poly(()), Poly([(4, 0, 1)]))

    def test_names(self):
        self.same(put_in(other=Poly([(0, 0, 2)]), one=NORTH, poly=Poly([(1, 1, 3)])).terms, ((0, 1, 6),))

    def test_moved(self):
        for poly in some_polys():
            for point in POINTS:
                got = moved(poly, point)
                self.same(Poly(got.terms).terms, got.terms)
                u, v = fractions(point)
                for x, y in map(fractions, POINTS):
                    self.assertEqual(naive(got, x + u, y + v), naive(poly, x, y))
                self.same(moved(got, [number(-u), number(-v)]).terms, poly.terms)
        self.same(moved(point=(0, 1), poly=NORTH).terms, ((0, 0, -1), (0, 1, 1)))

    def test_turned(self):
        for poly in some_polys():
            for turn in some_turns():
                got = turned_poly(poly, turn)
                self.same(Poly(got.terms).terms, got.terms)
                c, s = fractions(turn)
                for x, y in map(fractions, POINTS[:4]):
                    self.assertEqual(naive(got, c * x - s * y, s * x + c * y), naive(poly, x, y))
                self.same(turned_poly(got, [turn[0], number(-s)]).terms, poly.terms)
        self.same(turned_poly(turn=[[3, 5], [4, 5]], poly=EAST).terms, ((0, 1, (4, 5)), (1, 0, (3, 5))))

    def test_stretched(self):
        for poly in some_polys():
            for factor in (1, -1, 3, (1, 2), [-2, 3], -5):
                got = stretched(poly, factor)
                self.same(Poly(got.terms).terms, got.terms)
                for x, y in map(fractions, POINTS):
                    self.assertEqual(naive(got, x * fraction(factor), y * fraction(factor)), naive(poly, x, y))
                self.same(stretched(got, number(1 / fraction(factor))).terms, poly.terms)
        self.same(stretched(number=-2, poly=EAST).terms, ((1, 0, (-1, 2)),))


class EqualToAll:
    """A value that says that it is equal to any other one."""

    def __eq__(self, other):
        return True


class TestErrors(Case):
    def test_values_that_are_no_polys(self):
        for bad in NO_POLYS:
            for call in (poly_sum, poly_product):
                self.refuses(BadPoly("one"), call, bad, EAST)
                self.refuses(BadPoly("other"), call, EAST, bad)
                self.refuses(BadPoly("one"), call, bad, bad)
            self.refuses(BadPoly("poly"), put_in, bad, bad, bad)
            self.refuses(BadPoly("one"), put_in, Poly([(6, 0, 1)]), bad, bad)
            self.refuses(BadPoly("other"), put_in, Poly([(6, 0, 1)]), Poly([(6, 0, 1)]), bad)
            for call in (poly_times, value, slope, moved, turned_poly, stretched):
                self.refuses(BadPoly("poly"), call, bad, None)
            self.refuses(BadPoly("poly"), value, bad, (0, 0))
            self.refuses(BadPoly("poly"), slope, bad, "x")
            self.refuses(BadPoly("poly"), stretched, bad, 0)

    def test_numbers(self):
        for bad in NO_NUMBERS:
            self.refuses(BadNumber("number"), poly_times, EAST, bad)
            self.refuses(BadNumber("number"), stretched, EAST, bad)
        self.refuses(BadNumber("number"), stretched, Poly(()), 0)

    def test_points_and_turns(self):
        for bad in NO_POINTS:
            self.refuses(BadPoint("point"), value, Poly(()), bad)
            self.refuses(BadPoint("point"), moved, Poly(()), bad)
        for bad in NO_TURNS:
            self.refuses(BadTurn("turn"), turned_poly, Poly(()), bad)

    def test_unknowns(self):
        for bad in (None, "", "z", "X", "xy", "x ", b"x", 0, 1, True, ["x"], ("x",), {}, EAST, object(), EqualToAll()):
            self.refuses(BadPoly("unknown"), slope, EAST, bad)


if __name__ == "__main__":
    unittest.main()
