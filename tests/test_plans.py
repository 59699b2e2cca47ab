"""[12]: the terms, the reach, the words and the size of built machines."""

import time
import unittest
from fractions import Fraction
from itertools import product

from helpers import (
    NO_LENGTHS, NO_POLYS, Case, fraction, number, pen_of, some_poly, some_turns, value_of)
from typedcurve.builds import machine_for
from typedcurve.errors import BadNumber, BadPoly
from typedcurve.plans import count_for, reach_for, terms_for, words_for
from typedcurve.poly_texts import typed
from typedcurve.polys import Poly, poly_sum, stretched
from typedcurve.waves import waves_of
from typedcurve.words import made_of, steps, word_turn

FIRST = [(0, 0, 0), (1, 0, 0), (0, 1, 0), (0, 0, 1)]
RADII = [1, (5, 6), [3, 2], 2]
CALLS = [terms_for, reach_for, words_for, count_for]


def some_plans():
    """Polynomials of all degrees, sparse and full, each with a radius."""
    polys = [typed("0"), typed("7/3"), typed("x"), typed("y"), typed("x * x + y * y - 1"), typed("x * x + y * y"),
        typed("x * y"), typed("x ^ 3 - 3 * x * y ^ 2")]
    polys += [some_poly(10 * degree + many, degree, many) for degree in range(5) for many in (1, 3, 15)]
    return [(poly, radius) for at, poly in enumerate(polys) for radius in (RADII[at % 4], RADII[(at + 1) % 4])]


class TestExamples(Case):
    def setUp(self):
        self.across, self.circle = typed("x"), typed("x * x + y * y - 1")

    def test_across(self):
        self.same(
            [terms_for(self.across, 1), reach_for(self.across, 1), words_for(self.across, 1),
             count_for(self.across, 1)],
            [(((0, 2, 0), 1), ((2, 0, 0), 1)), 2, ((2, 0, 0), (0, 2, 0)), (60, 46)])
        self.refuses(BadNumber("radius"), reach_for, self.across, 0)

    def test_circle(self):
        self.same(
            [terms_for(self.circle, (5, 6)), words_for(self.circle, (5, 6)), count_for(self.circle, (5, 6))],
            [(((2, -2, 0), (25, 18)),), ((2, 0, 0), (0, 2, 0), (2, -2, 0)), (64, 50)])

    def test_upward(self):
        self.same(
            [terms_for(typed("y"), 1)[:2], words_for(typed("y"), 1), count_for(typed("0"), 2)],
            [(((0, 2, 0), (7, 24)), ((0, 2, 2), (-25, 24))),
             ((2, 0, 0), (0, 2, 0), (0, 0, 2), (0, 0, -2), (0, 2, 2), (2, 0, 2)), (51, 38)])


class TestTerms(Case):
    def test_against_the_waves(self):
        for poly, radius in some_plans():
            wanted = {}
            for (p, q), cosine, sine in waves_of(poly, radius).rows:
                cosine, sine = fraction(cosine), fraction(sine)
                wanted[2 * p, 2 * q, 0] = cosine + Fraction(7, 24) * sine
                wanted[2 * p, 2 * q, 2] = -Fraction(25, 24) * sine
            told = [(word, number(wanted[word])) for word in sorted(wanted) if wanted[word] != 0]
            self.same(terms_for(poly, radius), tuple(told))

    def test_they_make_the_value_at_the_pen(self):
        turns = list(product(some_turns()[:4], some_turns()[3:9:2]))
        for at, (poly, radius) in enumerate(some_plans()):
            constant = fraction(waves_of(poly, radius).constant)
            for a, b in turns[at % 5::5]:
                made = constant
                for word, factor in terms_for(poly, radius):
                    made += fraction(factor) * fraction(word_turn(word, a, b)[0])
                self.same(number(made), number(value_of(poly, pen_of(radius, a, b))))

    def test_none(self):
        for text in ("0", "7", "-2/3"):
            self.same([terms_for(typed(text), 1), reach_for(typed(text), (1, 2))], [(), 0])

    def test_another_constant(self):
        # The constant k is no term: another one changes neither terms nor words.
        for poly, radius in some_plans():
            other = poly_sum(poly, Poly([(0, 0, (13, 7))]))
            for call in CALLS:
                self.same(call(other, radius), call(poly, radius))


class TestReach(Case):
    def test_all_without_their_signs(self):
        for poly, radius in some_plans():
            self.same(reach_for(poly, radius), number(sum(abs(fraction(term[1])) for term in terms_for(poly, radius))))

    def test_it_bounds_the_value(self):
        for poly, radius in some_plans()[::3]:
            constant, reach = fraction(waves_of(poly, radius).constant), fraction(reach_for(poly, radius))
            for a, b in zip(some_turns(), some_turns()[3:]):
                self.assertLessEqual(abs(value_of(poly, pen_of(radius, a, b)) - constant), reach)


class TestWords(Case):
    def test_in_the_order_of_steps(self):
        for poly, radius in some_plans():
            words = words_for(poly, radius)
            wanted = [(2, 0, 0), (0, 2, 0)] + [word for word, _ in terms_for(poly, radius)]
            self.same(words, steps(wanted))
            self.same([word for word in wanted if word not in words], [])
            self.same(words[:2], ((2, 0, 0), (0, 2, 0)))
            for at, word in enumerate(words):
                self.assertTrue(all(needed in words[:at] or needed in FIRST for needed in made_of(word)))

    def test_without_terms(self):
        for text in ("0", "7"):
            self.same(words_for(typed(text), (9, 4)), ((2, 0, 0), (0, 2, 0)))


class TestCounts(Case):
    def test_against_the_machine(self):
        for poly, radius in some_plans():
            machine = machine_for(poly, radius)
            self.same(count_for(poly, radius), (machine.many, len(machine.bars)))

    def test_as_told(self):
        for poly, radius in some_plans():
            words, terms = len(words_for(poly, radius)), len(terms_for(poly, radius))
            wanted = (27 + 12 * words, 14 + 12 * words)
            if terms:
                wanted = (wanted[0] + 8 * terms - 7, wanted[1] + 8 * terms - 8)
            self.same(count_for(poly, radius), wanted)

    def test_they_stay_as_the_plane_is_stretched(self):
        for poly, radius in some_plans()[::2]:
            for factor in (2, (1, 3), (7, 5)):
                other = number(fraction(radius) * fraction(factor))
                for call in CALLS:
                    self.same(call(stretched(poly, factor), other), call(poly, radius))


class TestErrors(Case):
    def test_polys_and_radii(self):
        for call in CALLS:
            for bad in NO_POLYS:
                self.refuses(BadPoly("poly"), call, bad, None)
            for bad in NO_LENGTHS:
                self.refuses(BadNumber("radius"), call, typed("x"), bad)
            self.same(call(radius=[5, 6], poly=typed("x * y")), call(typed("x * y"), (5, 6)))


class TestShortTime(Case):
    def test_degree_4(self):
        poly = Poly([(i, j, number(Fraction(991 - 7 * i, 983 + 2 * j))) for i in range(5) for j in range(5 - i)])
        start = time.perf_counter()
        for call in CALLS:
            call(poly, (997, 991))
        self.assertLess(time.perf_counter() - start, 2)


if __name__ == "__main__":
    unittest.main()
