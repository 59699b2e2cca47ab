"""[12]: where built machines stand."""

import time
import unittest
from fractions import Fraction
from itertools import product

from helpers import (
    NO_LENGTHS, NO_POLYS, NO_TURNS, Case, decimal, fraction, number, pen_of, some_poly, some_turns, spot, through, times,
    total, value_of)
from typedcurve.builds import end_in, machine_for, rays_in
from typedcurve.errors import BadNumber, BadPoly, BadTurn
from typedcurve.papers import Denial, Paper
from typedcurve.places import as_point, is_place
from typedcurve.plans import terms_for, words_for
from typedcurve.poly_texts import typed
from typedcurve.polys import Poly, poly_product
from typedcurve.poses import Right, judged
from typedcurve.stands import Off, Stands, pen_at, stands
from typedcurve.turns import by_half
from typedcurve.waves import waves_of
from typedcurve.words import word_turn

O, EAST, NORTH, WEST = (0, 0), (1, 0), (0, 1), (-1, 0)
THIRD = ((3, 5), (4, 5))
RADII = [1, (5, 6), [3, 2], (1, 7), 4]


def some_polys():
    """Polynomials of no term, one, some and all terms, of degree 0 to 3."""
    polys = [typed(text) for text in (
        "x", "y", "x * x + y * y", "x ^ 2", "x * y", "y ^ 2 - x ^ 3", "2 * x - y", "0", "5/2")]
    return polys + [some_poly(7 * degree + many, degree, many) for degree in (1, 2, 3) for many in (2, 10)]


def some_pairs():
    """Pairs of turns: alike, opposite, a quarter away, and others."""
    turns = some_turns()
    pairs = [(EAST, EAST), (EAST, WEST), (NORTH, NORTH), (THIRD, THIRD), (THIRD, ((-3, 5), (-4, 5))), (EAST, NORTH),
        (NORTH, WEST), ([0, 1], [[3, 5], [4, 5]])]
    return pairs + list(zip(turns[3:], turns[6:] + turns[:3]))


def row_side(place, start, ahead):
    """1 if a place is to the left of the way from one spot to another, -1 to the right, 0 on the line."""
    (x, y), (u, v), (p, q) = [spot(told) for told in (start, ahead, place)]
    along = (u - x) * (q - y) - (v - y) * (p - x)
    return 0 if abs(along) < decimal((1, 10 ** 60)) else 1 if along > 0 else -1


class TestExamples(Case):
    def setUp(self):
        self.across, self.circle = typed("x"), typed("x * x + y * y - 1")

    def test_pens(self):
        self.same(
            [pen_at(1, EAST, NORTH), pen_at(1, EAST, EAST), pen_at((5, 6), EAST, ((3, 5), (-4, 5)))],
            [(0, 0), (2, 0), ((3, 5), (-4, 5))])

    def test_stands(self):
        self.same(
            [bool(stands(self.across, 1, EAST, NORTH)), stands(self.across, 1, EAST, EAST) == Off(2),
             bool(stands(self.circle, (5, 6), EAST, ((3, 5), (-4, 5))))],
            [True, True, True])
        told = stands(self.across, 1, EAST, NORTH).places
        self.same(
            [len(told), told[15], told[27], told[39], told[46], told[57]],
            [60, ((4, 0), O, 0), ((-4, 0), O, 0), (O, O, 0), (O, O, 0), (O, O, 0)])
        self.same([stands(typed("1"), 1, EAST, NORTH).by, bool(stands(typed("0"), 1, NORTH, NORTH))], [1, True])
        self.refuses(BadTurn("b"), stands, self.across, 1, EAST, (1, 1))


class TestPens(Case):
    def test_both_arms(self):
        for radius, (a, b) in product(RADII, some_pairs()):
            self.same(pen_at(radius, a, b), pen_of(radius, a, b))
        self.same(pen_at(b=[0, 1], a=[1, 0], radius=[1, 2]), O)

    def test_errors(self):
        for bad in NO_LENGTHS:
            self.refuses(BadNumber("radius"), pen_at, bad, None, None)
        for bad in NO_TURNS:
            self.refuses(BadTurn("a"), pen_at, 1, bad, bad)
            self.refuses(BadTurn("b"), pen_at, 1, EAST, bad)


class TestStands(Case):
    def check(self, poly, radius, a, b):
        paper = stands(poly, radius, a, b)
        self.assertIs(type(paper), Stands)
        machine, places = machine_for(poly, radius), paper.places
        self.same([is_place(place) for place in places], [True] * machine.many)
        self.same(judged(machine, places) == Right(), True)
        self.same((places[4], places[7]), ((times(a, 4), O, 0), (times(b, 4), O, 0)))
        self.same(places[machine.pen], (pen_of(radius, a, b), O, 0))
        for word, joint in rays_in(poly, radius):
            self.same(places[joint], (times(word_turn(word, a, b), 4), O, 0))
        return places

    def test_the_ends(self):
        for at, (a, b) in enumerate(some_pairs()):
            poly, radius = some_polys()[at % 7], RADII[at % 5]
            curve = through(poly, radius, a, b)
            places, terms = self.check(curve, radius, a, b), terms_for(curve, radius)
            end, joint = O, 18 + 12 * len(words_for(curve, radius))
            for index, (word, factor) in enumerate(terms):
                end = total(end, times(word_turn(word, a, b), factor))
                at_end = joint if index == 0 else joint + 8 * index - 4
                self.same(as_point(places[at_end]), end)
            self.same(as_point(places[end_in(curve, radius)]), end)
            if terms:
                self.same(end[0], number(-fraction(waves_of(curve, radius).constant)))

    def test_right_poses_at_side_1(self):
        aside = 0
        for at, (a, b) in enumerate(some_pairs()):
            for poly in some_polys():
                radius = RADII[at % 5]
                places = self.check(through(poly, radius, a, b), radius, a, b)
                aside += self.check_sides(places, poly, radius)
        self.assertGreater(aside, 1000)

    def check_sides(self, places, poly, radius):
        """Each key, each M and each corner of the cell is at its side 1; how many of them stand aside."""
        words, terms = words_for(poly, radius), terms_for(poly, radius)
        rays = dict(rays_in(poly, radius))
        seen = []
        for word in words:
            first = rays[word] - 2
            a_x = rays[word_x(word)] + 1
            # The rows lead from the midpoint of the first two corners to that of the last two.
            seen.append((first + 10, a_x, first + 9))
            seen.append((first + 11, first + 5, first + 7))
        w = 18 + 12 * len(words)
        for at in range(1, len(terms)):
            first, end = w + 1 + 8 * (at - 1), w if at == 1 else w + 8 * at - 12
            if places[end][0] == O:
                length = 1 + sum(abs(fraction(factor)) for _, factor in terms[:at + 1])
                self.same(places[first + 1], ((0, number(length)), O, 0))
            else:
                seen.append((first + 1, 0, end))
        end, cell = end_in(poly, radius), len(places) - 9
        for joint in (cell, cell + 2, cell + 8):
            seen.append((joint, cell + 4, end))
        for joint, start, ahead in seen:
            self.same(row_side(places[joint], places[start], places[ahead]), 1)
        for joint in (cell + 1, cell + 3):
            self.same(row_side(places[joint], places[cell + 4], places[end]), -1)
        return len([joint for joint, _, _ in seen if places[joint][2] != 0])

    def test_an_end_at_o(self):
        # With 2 a the same as 2 b, turned round, the first two terms of x x y or the like make nothing.
        found = 0
        for a, b in some_pairs():
            for poly in some_polys():
                curve = through(poly, 1, a, b)
                terms, places = terms_for(curve, 1), stands(curve, 1, a, b).places
                w = 18 + 12 * len(words_for(curve, 1))
                ends = [w if at == 0 else w + 8 * at - 4 for at in range(len(terms) - 1)]
                for at, joint in enumerate(ends):
                    if places[joint] == (O, O, 0):
                        found += 1
                        length = 1 + sum(abs(fraction(factor)) for _, factor in terms[:at + 2])
                        self.same(places[w + 1 + 8 * at + 1], ((0, number(length)), O, 0))
        self.assertGreater(found, 0)

    def test_off(self):
        for at, (a, b) in enumerate(some_pairs()):
            for poly in some_polys():
                radius = RADII[at % 5]
                off = value_of(poly, pen_of(radius, a, b))
                paper = stands(poly, radius, a, b)
                if off:
                    self.assertIs(type(paper), Off)
                    self.same(paper.by, number(off))
                else:
                    self.check(poly, radius, a, b)

    def test_a_pen_at_o(self):
        for radius, (a, b) in product(RADII, [(EAST, NORTH), (THIRD, ((-4, 5), (3, 5))), (WEST, (0, -1))]):
            self.same(pen_at(radius, a, b), O)
            for text, stood in (
                    ("x", True), ("x * x + y * y", True), ("x * x - y", True), ("x - 1", False), ("0", True)):
                self.same(bool(stands(typed(text), radius, a, b)), stood)
                if stood:
                    self.check(typed(text), radius, a, b)

    def test_turns_with_many_digits(self):
        a, b = by_half((997, 991)), by_half((-991, 983))
        self.check(through(typed("x * x - x * y + 7/3 * y"), (997, 991), a, b), (997, 991), a, b)

    def test_lists_and_names(self):
        told = stands(typed("x"), 1, EAST, NORTH)
        self.same(stands(b=[0, 1], a=[1, 0], radius=1, poly=typed("x")).places, told.places)
        self.same(stands(typed("x"), [5, 6], EAST, [[3, 5], [4, 5]]).by, stands(typed("x"), (5, 6), EAST, THIRD).by)

    def test_a_product(self):
        one, other = typed("x * x + y * y - 1"), typed("y - x")
        both = poly_product(one, other)
        seen = []
        for a, b in some_pairs() + [(EAST, ((3, 5), (-4, 5)))]:
            parts = [bool(stands(poly, (5, 6), a, b)) for poly in (one, other)]
            self.same(bool(stands(both, (5, 6), a, b)), any(parts))
            seen.append(tuple(parts))
        self.assertLessEqual({(True, False), (False, True), (False, False)}, set(seen))

    def test_errors(self):
        for bad in NO_POLYS:
            self.refuses(BadPoly("poly"), stands, bad, None, None, None)
        for bad in NO_LENGTHS:
            self.refuses(BadNumber("radius"), stands, typed("x"), bad, None, None)
        for bad in NO_TURNS:
            self.refuses(BadTurn("a"), stands, typed("x"), 1, bad, bad)
            self.refuses(BadTurn("b"), stands, typed("x"), 1, EAST, bad)

    def test_short_time(self):
        a, b, radius = by_half((997, 991)), by_half((-983, 977)), (997, 991)
        poly = Poly([(i, j, number(Fraction(991 - 7 * i, 983 + 2 * j))) for i in range(3) for j in range(3 - i)])
        start = time.perf_counter()
        curve = through(poly, radius, a, b)
        self.same(bool(judged(machine_for(curve, radius), stands(curve, radius, a, b).places)), True)
        self.assertLess(time.perf_counter() - start, 4)
        start = time.perf_counter()
        poly = Poly([(i, j, number(Fraction(991 - 7 * i, 983 + 2 * j))) for i in range(5) for j in range(5 - i)])
        self.same(bool(stands(poly, radius, a, b)), False)
        self.assertLess(time.perf_counter() - start, 4)


class TestPapers(Case):
    def test_parts_and_truth(self):
        for paper in (Stands([1, [2]]), Stands(places=(1, (2,)))):
            self.same([paper.word, paper.parts, paper.places, bool(paper)], ["stands", ((1, (2,)),), (1, (2,)), True])
        for paper in (Off([1, 2]), Off(by=(1, 2))):
            self.same([paper.word, paper.parts, paper.by, bool(paper)], ["off", ((1, 2),), (1, 2), False])
        self.same([Stands(1) == Stands(1), Off(1) == Off(1), Stands(1) == Off(1), Off(1) == Off(2)],
            [True, True, False, False])
        self.same([Stands(1) == Paper("stands", 1), Off(1) == Denial("off", 1)], [False, False])
        self.same([isinstance(Stands(1), Denial), isinstance(Off(1), Denial), isinstance(Off(1), Paper)],
            [False, True, True])


def word_x(word):
    """The x of the two words of which a word is made, told as the document does."""
    places = [at for at in range(3) if word[at] != 0]
    if len(places) == 1:
        (at,), k = places, word[places[0]]
        half = 0 if k < 0 else (k + 1) // 2
    else:
        at = [place for place in places if word[place] % 2 == 0][0]
        half = word[at] // 2
    return tuple(half if place == at else 0 for place in range(3))


if __name__ == "__main__":
    unittest.main()
