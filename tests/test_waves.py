"""[6]: waves, their worth and slopes, and the waves of a polynomial."""

import time
import unittest
from fractions import Fraction
from random import Random

from helpers import NO_NUMBERS, NO_TURNS, Case, fraction, number, some_turns, turn_times
from typedcurve.errors import BadNumber, BadPoly, BadTurn, BadWaves, TooMany
from typedcurve.poly_texts import typed
from typedcurve.polys import Poly, poly_product, poly_sum, poly_times, value
from typedcurve.waves import (
    Waves, beat_turn, cosines, exchanged, poly_of, slopes_at, waves_of, waves_product, waves_sum, waves_times, worth_at)

BEATS = [(p, q) for p in range(7) for q in range(-6, 7) if p + abs(q) <= 6 and (p > 0 or q > 0)]
NO_BEATS = [
    (0, 0), (0, -1), (-1, 0), (-1, 1), (-1, -1), (0, -6), (7, 0), (0, 7), (4, 3), (4, -3), (1, 6), (1, -6), (-7, 0),
    (True, 0), (0, True),
    (1, False), (1, 0.0), (1.0, 0), (1, None), ("1", 0), (1,), (1, 0, 0), (), [], [1], None, True, 1, "10", b"10", {},
    {1: 0}, ((1, 2), 0)]
NO_WAVES = [None, True, 0, (1, 2), (), [], "x", (0, ()), {}, 0.5, object(), Waves, Poly(())]
NO_RADII = NO_NUMBERS + [0, -1, (-1, 2), [-7, 3]]
TURNS = [((1, 0), (1, 0)), ((1, 0), (0, 1)), ((0, 1), ((3, 5), (4, 5))), (((-4, 5), (-3, 5)), ((5, 13), (-12, 13))),
    ([[3, 5], [4, 5]], [-1, 0])]
RADII = [1, (5, 6), [3, 2], 2]


def angle_turn(beat, a, b):
    """The turn of a beat by Python's fractions."""
    (x, y), (u, v) = turn_times(a, 2 * beat[0]), turn_times(b, 2 * beat[1])
    return x * u - y * v, y * u + x * v


def naive_worth(waves, a, b):
    """The worth of waves by Python's fractions."""
    total = fraction(waves.constant)
    for beat, cosine, sine in waves.rows:
        x, y = angle_turn(beat, a, b)
        total += fraction(cosine) * x + fraction(sine) * y
    return total


def naive_pen(radius, a, b):
    """Where the pen stands, by Python's fractions."""
    (x, y), (u, v) = turn_times(a, 2), turn_times(b, 2)
    return fraction(radius) * (x + u), fraction(radius) * (y + v)


def some_waves(seed, most):
    """Waves of all sizes, full ones and sparse ones, up to a size."""
    random = Random(seed)
    found = [Waves(0, ()), Waves((-3, 2), ()), Waves(0, [((1, 0), 0, 1)]), Waves(1, [((0, 1), 1, 0)])]
    for size in range(1, most + 1):
        for part in (1, 4):
            rows = [
                (beat, number(Fraction(random.randint(-5, 5), 2)), random.choice([1, -2, (1, 3)]))
                for beat in BEATS if sum(map(abs, beat)) <= size and random.randrange(part) == 0]
            found.append(Waves(random.randint(-2, 2), rows))
    return [waves for waves in found if waves.size <= most]


def some_poly(seed, degree):
    """A polynomial with each term that its degree lets, or most of them."""
    random = Random(seed)
    return Poly([
        (i, j, number(Fraction(random.choice([-7, -2, -1, 1, 3, 5]), random.randint(1, 4))))
        for i in range(degree + 1) for j in range(degree + 1 - i) if i + j == degree or random.randrange(4)])


class TestExamples(Case):
    def setUp(self):
        self.across, self.up, self.circle = typed("x"), typed("y"), typed("x * x + y * y - 1")
        self.twice = waves_product(waves_of(self.across, 1), waves_of(self.across, 1))
        self.slant = ((3, 5), (4, 5))

    def test_waves_of(self):
        self.same(
            [waves_of(self.across, 1).rows, waves_of(self.up, 1).rows, waves_of(self.circle, (5, 6)).constant,
             waves_of(self.circle, (5, 6)).rows],
            [(((0, 1), 1, 0), ((1, 0), 1, 0)), (((0, 1), 0, 1), ((1, 0), 0, 1)), (7, 18), (((1, -1), (25, 18), 0),)])

    def test_twice(self):
        twice = self.twice
        self.same(
            [twice.constant, twice.rows, twice.size, twice == waves_of(typed("x ^ 2"), 1), exchanged(twice) == twice],
            [1, (((0, 2), (1, 2), 0), ((1, -1), 1, 0), ((1, 1), 1, 0), ((2, 0), (1, 2), 0)), 2, True, True])

    def test_worth_and_slopes(self):
        across, up, slant = self.across, self.up, self.slant
        self.same(
            [beat_turn((1, 0), slant, (1, 0)), beat_turn((1, -1), (1, 0), (0, 1)),
            worth_at(waves_of(across, 1), slant, (1, 0)),
             worth_at(self.twice, (1, 0), (0, 1))],
            [((-7, 25), (24, 25)), (-1, 0), (18, 25), 0])
        self.same(
            [slopes_at(waves_of(up, 1), (1, 0), (0, 1)), slopes_at(waves_of(across, 1), slant, (1, 0))],
            [(2, -2), ((-48, 25), 0)])

    def test_cosines(self):
        self.same(
            [cosines(waves_of(self.across, 1)), cosines(Waves(5, [((1, 0), -7, 24)])),
            cosines(waves_of(self.up, 1))[2:]],
            [(((0, 2, 0), 1), ((2, 0, 0), 1)), (((2, 0, 2), -25),), (((2, 0, 0), (7, 24)), ((2, 0, 2), (-25, 24)))])

    def test_poly_of(self):
        lone = Waves(0, [((1, 1), 1, 0)])
        self.same(
            [poly_of(self.twice, 1) == typed("x ^ 2"), poly_of(lone, 1),
             poly_of(Waves(2, [[[1, -1], 2, 0]]), 1) == typed("x * x + y * y"), poly_of(Waves((1, 2), ()), 3).terms],
            [True, None, True, ((0, 0, (1, 2)),)])

    def test_errors(self):
        self.refuses(BadWaves("rows"), Waves, 0, [((0, -1), 1, 0)])
        self.refuses(TooMany("size", 6), waves_product, Waves(0, [((2, 2), 1, 0)]), Waves(0, [((0, 3), 0, 1)]))


class TestWaves(Case):
    def test_rows_in_any_order(self):
        rows = [(beat, at - 3, (1, 2)) for at, beat in enumerate(BEATS)]
        random = Random(2)
        for _ in range(10):
            random.shuffle(rows)
            waves = Waves([1, 2], [[list(beat), cosine, list(sine)] for beat, cosine, sine in rows])
            self.same(waves.rows, tuple(sorted(rows)))
            self.same([waves.constant, waves.size, waves == Waves((1, 2), tuple(rows))], [(1, 2), 6, True])
        self.same(Waves(rows=[], constant=5).constant, 5)

    def test_size(self):
        for p, q in BEATS:
            self.same(Waves(0, [((p, q), 1, 0)]).size, p + abs(q))
        self.same([Waves(7, ()).size, Waves(0, [((1, -2), 1, 0), ((2, 0), 0, 1)]).size], [0, 3])
        self.same(Waves(0, [((0, 2), 1, 0), ((3, -1), 0, 1), ((5, 0), 1, 1)]).size, 5)

    def test_all_beats(self):
        self.assertEqual(len(BEATS), 42)
        for beat in BEATS:
            self.same(Waves(0, [(beat, 0, (-1, 2))]).rows, ((beat, 0, (-1, 2)),))

    def test_equal(self):
        one = Waves(1, [((1, 0), 1, 0)])
        self.same(one == Waves(1, [[[1, 0], 1, 0]]), True)
        self.same(one != Waves(1, [[[1, 0], 1, 0]]), False)
        for other in (Waves(2, one.rows), Waves(1, [((1, 0), 0, 1)]), Waves(1, [((0, 1), 1, 0)]), Waves(1, ()),
            Waves(1, [((1, 0), 2, 0)]),
                      Waves(1, [((1, 0), 1, 1)])):
            self.same([one == other, other == one, one != other], [False, False, True])
        for other in (None, 1, (1, one.rows), one.rows, "1", object()):
            self.same([one == other, other == one, one != other], [False, False, True])

    def test_rows_that_are_none(self):
        good = ((1, 1), 1, 0)
        bad_rows = [(beat, 1, 0) for beat in NO_BEATS]
        bad_rows += [((1, 0), 0, 0), ((1, 0), 1), ((1, 0), 1, 0, 0), ((1, 0),), (), [], None, True, 7, "x", {},
            (1, 0, 1)]
        bad_rows += [((1, 0), bad, 1) for bad in NO_NUMBERS] + [((1, 0), 1, bad) for bad in NO_NUMBERS]
        for row in bad_rows:
            for rows in ([row], (row,), [good, row], [row, good]):
                self.refuses(BadWaves("rows"), Waves, 0, rows)

    def test_beats_told_twice(self):
        self.refuses(BadWaves("rows"), Waves, 0, [((1, 0), 1, 0), ((1, 0), 1, 0)])
        self.refuses(BadWaves("rows"), Waves, 0, [((1, 0), 1, 0), ((0, 1), 1, 0), [[1, 0], 0, 1]])

    def test_values_that_are_no_lists(self):
        for rows in (None, True, 0, "", {}, {((1, 0), 1, 0)}, Waves(0, ()), object(), iter([])):
            self.refuses(BadWaves("rows"), Waves, 0, rows)

    def test_constants(self):
        for bad in NO_NUMBERS:
            self.refuses(BadNumber("constant"), Waves, bad, ())
            self.refuses(BadNumber("constant"), Waves, bad, None)

    def test_what_was_passed_may_change(self):
        beat, cosine, constant = [1, 0], [1, 2], [3, 2]
        rows = [[beat, cosine, 0]]
        waves = Waves(constant, rows)
        self.same([constant, rows], [[3, 2], [[[1, 0], [1, 2], 0]]])
        beat[0], cosine[0], constant[0] = 2, 7, 9
        rows.append(((0, 1), 1, 0))
        self.same([waves.constant, waves.rows, waves.size], [(3, 2), (((1, 0), (1, 2), 0),), 1])


class TestArithmetic(Case):
    def at_turns(self, waves, wanted):
        """The waves are right in form, and have the wanted worth at some turns."""
        again = Waves(waves.constant, waves.rows)
        self.same([again.constant, again.rows, again.size], [waves.constant, waves.rows, waves.size])
        for a, b in TURNS[2:4]:
            self.assertEqual(naive_worth(waves, a, b), wanted(a, b))

    def test_sums(self):
        for one in some_waves(3, 6):
            for other in some_waves(4, 6):
                self.at_turns(waves_sum(one, other), lambda a, b: naive_worth(one, a, b) + naive_worth(other, a, b))
        self.same(waves_sum(other=Waves(1, ()), one=Waves(2, [((1, 0), 1, 0)])).rows, (((1, 0), 1, 0),))

    def test_multiples(self):
        for waves in some_waves(5, 6):
            for factor in (0, 1, -1, (1, 2), [-7, 3]):
                self.at_turns(waves_times(waves, factor), lambda a, b: fraction(factor) * naive_worth(waves, a, b))
            nothing = waves_times(number=0, waves=waves)
            self.same([nothing.constant, nothing.rows, nothing.size], [0, (), 0])

    def test_products(self):
        for one in some_waves(6, 4):
            for other in some_waves(7, 3):
                if one.size + other.size <= 6:
                    product = waves_product(one, other)
                    self.at_turns(product, lambda a, b: naive_worth(one, a, b) * naive_worth(other, a, b))
                else:
                    self.refuses(TooMany("size", 6), waves_product, one, other)

    def test_products_of_two_beats(self):
        for one in [beat for beat in BEATS if sum(map(abs, beat)) <= 2]:
            for other in [beat for beat in BEATS if sum(map(abs, beat)) <= 2]:
                for cosine, sine in ((1, 0), (0, 1)):
                    left, right = Waves(0, [(one, 2, 3)]), Waves(0, [(other, cosine, sine)])
                    self.at_turns(waves_product(left, right), lambda a,
                        b: naive_worth(left, a, b) * naive_worth(right, a, b))

    def test_sizes_of_products(self):
        six, three, four = Waves(0, [((3, -3), 1, 0)]), Waves(0, [((0, 3), 0, 1)]), Waves(0, [((2, 2), 1, 0)])
        self.same(waves_product(six, Waves(2, ())).rows, (((3, -3), 2, 0),))
        self.same(waves_product(Waves(0, ()), six).rows, ())
        self.same(waves_product(one=three, other=three).rows, (((0, 6), (-1, 2), 0),))
        self.same(waves_product(one=three, other=three).constant, (1, 2))
        for one, other in ((four, three), (three, four), (six, Waves(0, [((1, 0), 1, 0)])),
            (Waves(0, [((0, 1), 1, 0)]), six), (six, six)):
            self.refuses(TooMany("size", 6), waves_product, one, other)

    def test_what_cancels_is_left_out(self):
        for waves in some_waves(8, 6):
            nothing = waves_sum(waves, waves_times(waves, -1))
            self.same([nothing.constant, nothing.rows, nothing.size], [0, (), 0])
        half = waves_sum(Waves(1, [((2, 1), 1, 1), ((1, 0), 1, 0)]), Waves(-1, [((2, 1), -1, -1), ((1, 0), -1, 2)]))
        self.same([half.constant, half.rows, half.size], [0, (((1, 0), 0, 2),), 1])
        square = waves_product(Waves(0, [((1, 0), 1, 0)]), Waves(0, [((1, 0), 0, 1)]))
        self.same([square.constant, square.rows], [0, (((2, 0), 0, (1, 2)),)])

    def test_exchanged(self):
        for waves in some_waves(9, 6):
            got = exchanged(waves)
            for a, b in TURNS:
                self.assertEqual(naive_worth(got, b, a), naive_worth(waves, a, b))
            self.same([got.constant, got.size, exchanged(got) == waves], [waves.constant, waves.size, True])
        self.same(exchanged(waves=Waves(0, [((1, -2), 3, 5), ((1, 2), 3, 5)])).rows, (((2, -1), 3, -5), ((2, 1), 3, 5)))

    def test_errors(self):
        good = Waves(0, [((3, 3), 1, 0)])
        for bad in NO_WAVES:
            for call in (waves_sum, waves_product):
                self.refuses(BadWaves("one"), call, bad, good)
                self.refuses(BadWaves("other"), call, good, bad)
                self.refuses(BadWaves("one"), call, bad, bad)
            self.refuses(BadWaves("waves"), waves_times, bad, 1)
            self.refuses(BadWaves("waves"), waves_times, bad, None)
            self.refuses(BadWaves("waves"), exchanged, bad)
            self.refuses(BadWaves("waves"), cosines, bad)
        for bad in NO_NUMBERS:
            self.refuses(BadNumber("number"), waves_times, good, bad)


class TestWorth(Case):
    def test_beat_turns(self):
        for beat in BEATS:
            for a, b in TURNS:
                self.same(beat_turn(beat, a, b), tuple(map(number, angle_turn(beat, a, b))))
        self.same(beat_turn(b=(1, 0), a=[[3, 5], [4, 5]], beat=[1, 0]), ((-7, 25), (24, 25)))

    def test_worth(self):
        for waves in some_waves(10, 6):
            for a, b in TURNS:
                self.same(worth_at(waves, a, b), number(naive_worth(waves, a, b)))
        self.same(worth_at(b=(1, 0), a=(0, 1), waves=Waves((1, 2), [((1, 0), 1, 0)])), (-1, 2))

    def test_slopes(self):
        for waves in some_waves(11, 6):
            for a, b in TURNS:
                by_a = by_b = Fraction(0)
                for (p, q), cosine, sine in waves.rows:
                    x, y = angle_turn((p, q), a, b)
                    growth = fraction(sine) * x - fraction(cosine) * y
                    by_a, by_b = by_a + 2 * p * growth, by_b + 2 * q * growth
                self.same(slopes_at(waves, a, b), (number(by_a), number(by_b)))
        self.same(slopes_at(b=(0, 1), a=(1, 0), waves=Waves(0, [((1, 0), 0, 1)])), (2, 0))
        self.same(slopes_at(Waves(7, ()), (1, 0), (1, 0)), (0, 0))

    def test_drawn_turns(self):
        random = Random(13)
        waves = some_waves(12, 4)[-2]
        for _ in range(10):
            a, b = random.choice(some_turns()), random.choice(some_turns())
            self.same(worth_at(waves, a, b), number(naive_worth(waves, a, b)))

    def test_errors(self):
        for bad in NO_BEATS:
            self.refuses(BadWaves("beat"), beat_turn, bad, (1, 0), (1, 0))
            self.refuses(BadWaves("beat"), beat_turn, bad, None, None)
        for bad in NO_WAVES:
            for call in (worth_at, slopes_at):
                self.refuses(BadWaves("waves"), call, bad, (1, 0), (1, 0))
                self.refuses(BadWaves("waves"), call, bad, None, None)
        for bad in NO_TURNS:
            for call, first in ((beat_turn, (1, 0)), (worth_at, Waves(0, ())), (slopes_at, Waves(0, ()))):
                self.refuses(BadTurn("a"), call, first, bad, (1, 0))
                self.refuses(BadTurn("b"), call, first, (1, 0), bad)
                self.refuses(BadTurn("a"), call, first, bad, bad)


class TestPolynomials(Case):
    def polys(self):
        found = [Poly(()), typed("x"), typed("y"), typed("7"), typed("x * y"), typed("x ^ 2 - y ^ 2"),
            typed("x * x + y * y - 1")]
        return found + [some_poly(seed, degree) for degree in range(7) for seed in (1, 2)]

    def test_worth_is_the_value_at_the_pen(self):
        for poly in self.polys():
            for radius in RADII:
                waves = waves_of(poly, radius)
                self.same(Waves(waves.constant, waves.rows) == waves, True)
                self.same(waves.size, poly.degree)
                for a, b in TURNS[1:4]:
                    x, y = naive_pen(radius, a, b)
                    self.assertEqual(naive_worth(waves, a, b), fraction(value(poly, (number(x), number(y)))))

    def test_sums_and_products(self):
        one, other = some_poly(4, 2), some_poly(5, 3)
        self.same(waves_of(poly_sum(one, other), 2) == waves_sum(waves_of(one, 2), waves_of(other, 2)), True)
        self.same(waves_of(poly_product(one, other), 2) == waves_product(waves_of(one, 2), waves_of(other, 2)), True)
        self.same(waves_of(poly_times(one, (1, 3)), 2) == waves_times(waves_of(one, 2), (1, 3)), True)

    def test_exchanged(self):
        for poly in self.polys():
            waves = waves_of(poly, (5, 6))
            self.same(exchanged(waves) == waves, True)

    def test_there_and_back(self):
        for poly in self.polys():
            for radius in RADII:
                self.same(poly_of(waves_of(poly, radius), radius).terms, poly.terms)
        self.same(poly_of(radius=[5, 6], waves=waves_of(radius=[5, 6], poly=typed("x"))).terms, ((1, 0, 1),))

    def test_another_radius(self):
        waves = waves_of(typed("x * y + x"), 1)
        self.same(poly_of(waves, 2).terms, ((1, 0, (1, 2)), (1, 1, (1, 4))))

    def test_waves_of_none(self):
        for beat in BEATS:
            for cosine, sine in ((1, 0), (0, 1), (2, (-1, 3))):
                # Alone, just cosines of k times both, unlike in direction, are those of polynomials of x x + y y.
                is_told = sum(beat) == 0 and sine == 0
                self.same(poly_of(Waves(3, [(beat, cosine, sine)]), 1) is None, not is_told)

    def test_waves_that_are_nearly_those_of_a_polynomial(self):
        for degree in range(1, 7):
            waves = waves_of(some_poly(degree, degree), (3, 2))
            for beat in BEATS:
                self.assertIsNone(poly_of(waves_sum(waves, Waves(0, [(beat, 0, (1, 7))])), (3, 2)))
                if sum(beat) != 0:
                    self.assertIsNone(poly_of(waves_sum(waves, Waves(0, [(beat, (1, 7), 0)])), (3, 2)))
            more = waves_sum(waves, waves_of(typed("x * x + y * y + 3"), (3, 2)))
            self.same(poly_of(more, (3, 2)) == poly_sum(some_poly(degree, degree), typed("x * x + y * y + 3")), True)

    def test_errors(self):
        for bad in NO_WAVES[:-1] + [Waves(0, ())]:
            self.refuses(BadPoly("poly"), waves_of, bad, 1)
            self.refuses(BadPoly("poly"), waves_of, bad, 0)
        for bad in NO_WAVES:
            self.refuses(BadWaves("waves"), poly_of, bad, 1)
            self.refuses(BadWaves("waves"), poly_of, bad, 0)
        for bad in NO_RADII:
            self.refuses(BadNumber("radius"), waves_of, Poly(()), bad)
            self.refuses(BadNumber("radius"), poly_of, Waves(0, ()), bad)

    def test_time(self):
        start = time.perf_counter()
        poly = some_poly(1, 4)
        self.same(poly_of(waves_of(poly, (999, 998)), (999, 998)).terms, poly.terms)
        self.assertLess(time.perf_counter() - start, 5)


class TestCosines(Case):
    def test_terms(self):
        for waves in some_waves(14, 6):
            wanted = []
            for (p, q), cosine, sine in waves.rows:
                wanted.append(((2 * p, 2 * q, 0), fraction(cosine) + Fraction(7, 24) * fraction(sine)))
                wanted.append(((2 * p, 2 * q, 2), Fraction(-25, 24) * fraction(sine)))
            self.same(cosines(waves), tuple((word, number(at)) for word, at in sorted(wanted) if at != 0))

    def test_they_make_the_worth(self):
        delta = ((4, 5), (3, 5))
        for waves in some_waves(15, 6):
            for a, b in TURNS[1:4]:
                total = fraction(waves.constant)
                for (p, q, many), factor in cosines(waves):
                    (x, y), (u, v) = angle_turn((p // 2, q // 2), a, b), turn_times(delta, many)
                    total += fraction(factor) * (x * u - y * v)
                self.assertEqual(total, naive_worth(waves, a, b))

    def test_what_is_0_is_left_out(self):
        self.same(cosines(waves=Waves(9, ())), ())
        self.same(cosines(Waves(0, [((0, 2), (7, 24), -1), ((2, -1), 5, 0)])), (((0, 4, 2), (25, 24)), ((4, -2, 0), 5)))
        self.same(cosines(Waves(0, [((1, 1), 0, 24)])), (((2, 2, 0), 7), ((2, 2, 2), -25)))


if __name__ == "__main__":
    unittest.main()
