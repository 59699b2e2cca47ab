"""[14]: at which places the second arm can stand while the first one is held."""

import time
import unittest
from fractions import Fraction

from helpers import (
    NO_LENGTHS, NO_POLYS, NO_TURNS, Case, decimal, fraction, listed, number, some_poly, some_turns, times,
    total, value_of)
from typedcurve.arms import Every, Halves, Nowhere, arm_row, other_arm, pens_at
from typedcurve.errors import BadNumber, BadPoly, BadTurn, Misfit
from typedcurve.lines import count_roots, roots_of, value_at
from typedcurve.numbers import is_below, minus, plus, quotient, root_of, sign_of
from typedcurve.papers import Denial, Paper
from typedcurve.poly_texts import typed
from typedcurve.polys import Poly, poly_product, stretched
from typedcurve.stands import stands
from typedcurve.turns import by_half, doubled

EAST, NORTH, WEST = (1, 0), (0, 1), (-1, 0)
HALVES = [0, 1, -1, (1, 2), (-1, 3), 2, (-7, 5), (22, 7), 100]
RADII = [1, (5, 6), [3, 2], 2]


def some_polys():
    """Polynomials of degree 0 to 6."""
    polys = [typed(text) for text in (
        "0", "7", "x", "y", "x - 3", "x * x + y * y - 1", "x * x + y * y - 2 * x", "x * y", "2 * x - 1", "y - x",
        "( x + 1 ) * ( y - 1 )", "x ^ 2 - 2 * y ^ 2", "y ^ 2 - x ^ 3", "x ^ 6 - y ^ 5 + 1")]
    return polys + [some_poly(5 * degree + many, degree, many) for degree in range(7) for many in (1, 4, 28)]


def some_held():
    for at, poly in enumerate(some_polys()):
        for step, turn in enumerate(some_turns()[at % 2::2]):
            yield poly, RADII[(at + step) % 4], turn


def pen(radius, turn, other):
    return times(total(turn, other), radius)


def exact_pen(radius, turn, half):
    """The pen as two decimals, for a half that is a decimal."""
    c, s, r = decimal(turn[0]), decimal(turn[1]), decimal(radius)
    below = 1 + half * half
    return r * (c + (1 - half * half) / below), r * (s + 2 * half / below)


class TestExamples(Case):
    def setUp(self):
        self.across, self.circle = typed("x"), typed("x * x + y * y - 1")
        self.ring = typed("x * x + y * y - 2 * x")

    def test_rows(self):
        self.same(
            [arm_row(self.across, 1, EAST), arm_row(self.across, 1, NORTH), arm_row(self.circle, (5, 6), [1, 0]),
             arm_row(typed("0"), 1, NORTH), arm_row(typed("7"), 2, NORTH)],
            [(2, 0, 0), (1, 0, -1), ((16, 9), 0, (7, 9), 0, -1), (0,), (7,)])

    def test_other_arms(self):
        self.same(
            [other_arm(self.across, 1, EAST, 1).parts, other_arm(self.across, 1, turn=NORTH, near=1).parts,
             other_arm(self.circle, (5, 6), EAST, 1).boxes],
            [((), True), (((-1, -1), (1, 1)), False), (((-4, 3), (-4, 3)), ((4, 3), (4, 3)))])
        self.same(
            [other_arm(self.ring, 1, EAST, 1) == Every(), bool(other_arm(self.ring, 1, NORTH, 1)),
             other_arm(typed("x - 3"), 1, EAST, 1) == Nowhere()],
            [True, True, True])
        self.refuses(BadTurn("turn"), other_arm, self.across, 1, (1, 1), 0)
        self.refuses(BadNumber("near"), other_arm, self.across, 1, NORTH, 0)

    def test_pens(self):
        self.same(
            [pens_at(self.across, 1, NORTH, 1), pens_at(self.across, 1, EAST, near=1)],
            [(((0, 0), (0, 0)), ((0, 0), (2, 2))), (((0, 0), (0, 0)),)])
        upper = pens_at(typed("2 * x - 1"), 1, NORTH, (1, 10))[1]
        self.same([is_below(high, (1, 2)) or is_below((1, 2), low) for low, high in upper[:1]], [False])
        self.refuses(Misfit("turn"), pens_at, self.ring, 1, EAST, 1)


class TestRows(Case):
    def test_against_the_value_at_the_pen(self):
        for poly, radius, turn in some_held():
            row = arm_row(poly, radius, turn)
            # More halves than the row has numbers: so no other row has these values.
            halves = [number(Fraction(p, q)) for p, q in zip(range(-7, 8), [1, 2, 3, 5, 4] * 3)]
            self.assertGreater(len(set(halves)), 2 * poly.degree)
            for half in halves:
                off = value_of(poly, pen(radius, turn, by_half(half)))
                self.same(value_at(row, half), number((1 + fraction(half) ** 2) ** poly.degree * off))

    def test_their_lengths(self):
        for poly, radius, turn in some_held():
            row = arm_row(poly, radius, turn)
            self.assertIs(type(row), tuple)
            self.same(len(row), 2 * poly.degree + 1)
        self.same([poly.degree for poly in some_polys()].count(6) > 1, True)
        # The last numbers stay, though they are 0.
        self.same(arm_row(typed("x"), 1, EAST), (2, 0, 0))
        self.same(arm_row(typed("x * x + y * y - 2 * x"), 1, EAST), (0, 0, 0, 0, 0))
        self.same(arm_row(typed("( x + 1 ) * x"), 1, EAST), (6, 0, 2, 0, 0))

    def test_straight_back(self):
        for poly, radius, turn in some_held():
            off = value_of(poly, pen(radius, turn, WEST))
            self.same(arm_row(poly, radius, turn)[-1], number(off))

    def test_a_product(self):
        for one, other in ((typed("x - 1"), typed("y")), (typed("x * y"), typed("x + y - 1/2"))):
            both = arm_row(poly_product(one, other), (5, 6), NORTH)
            for half in HALVES:
                rows = [arm_row(poly, (5, 6), NORTH) for poly in (one, other)]
                wanted = fraction(value_at(rows[0], half)) * fraction(value_at(rows[1], half))
                self.same(value_at(both, half), number(wanted))


class TestOtherArms(Case):
    def check_boxes(self, row, boxes, near):
        """The boxes are those of all roots of the row, ascending, none wider than near."""
        self.same(len(boxes), count_roots(row, None, None))
        for low, high in boxes:
            if low == high:
                self.same(value_at(row, low), 0)
            else:
                self.same(is_below(near, minus(high, low)), False)
                self.same(count_roots(row, low, high), 1)
                self.same(0 in (sign_of(value_at(row, low)), sign_of(value_at(row, high))), False)
        for (_, high), (low, _) in zip(boxes, boxes[1:]):
            self.same(is_below(low, high), False)

    def test_each_answer(self):
        seen = set()
        for at, (poly, radius, turn) in enumerate(some_held()):
            near = [1, (1, 1000), 100, [1, 7]][at % 4]
            row, paper = arm_row(poly, radius, turn), other_arm(poly, radius, turn, near)
            if not any(row):
                self.assertIs(type(paper), Every)
                seen.add("every")
                continue
            many, back = count_roots(row, None, None), value_of(poly, pen(radius, turn, WEST)) == 0
            if many == 0 and not back:
                self.assertIs(type(paper), Nowhere)
                seen.add("nowhere")
                continue
            self.assertIs(type(paper), Halves)
            self.same(paper.back, back)
            self.check_boxes(row, paper.boxes, near)
            self.same(paper == other_arm(poly, listed(radius), listed(turn), listed(near)), True)
            seen.add(("halves", many > 0, back))
        self.assertLessEqual(
            {"every", "nowhere", ("halves", True, False), ("halves", False, True), ("halves", True, True)}, seen)

    def test_straight_back_alone(self):
        for radius in RADII:
            self.same(other_arm(typed("x"), radius, EAST, 1).parts, ((), True))
            self.same(pens_at(typed("x"), radius, EAST, 1), (((0, 0), (0, 0)),))

    def test_halves_with_straight_back(self):
        paper = other_arm(typed("x * ( x - 1 )"), 1, EAST, 1)
        self.same(paper.parts, (((-1, -1), (1, 1)), True))
        self.same(pens_at(typed("x * ( x - 1 )"), 1, EAST, 1),
            (((1, 1), (-1, -1)), ((1, 1), (1, 1)), ((0, 0), (0, 0))))

    def test_numbers_among_others(self):
        # x is 0 at the halves -1 and 1; 2 x is 1 at halves that are no numbers.
        paper = other_arm(typed("x * ( 2 * x - 1 )"), 1, NORTH, (1, 100))
        self.same([low == high for low, high in paper.boxes], [True, False, False, True])
        self.same((paper.boxes[0], paper.boxes[3]), ((-1, -1), (1, 1)))

    def test_constants(self):
        for turn in some_turns():
            self.same(other_arm(typed("0"), 1, turn, 1) == Every(), True)
            self.same(other_arm(typed("7/2"), 1, turn, 1) == Nowhere(), True)

    def test_equal_when_called_again(self):
        for poly, radius, turn in list(some_held())[::9]:
            self.same(other_arm(poly, radius, turn, (1, 9)) == other_arm(poly, radius, turn, (1, 9)), True)


class TestPens(Case):
    def check(self, poly, radius, turn, near):
        row = arm_row(poly, radius, turn)
        boxes, back = roots_of(row, (1, 10 ** 60)), row[-1] == 0
        pens = pens_at(poly, radius, turn, near)
        self.same(len(pens), len(boxes) + back)
        for at, (low, high) in enumerate(boxes):
            if low == high:
                x, y = pen(radius, turn, by_half(low))
                self.same(pens[at], ((x, x), (y, y)))
                self.same(value_of(poly, (x, y)), Fraction(0))
                continue
            sure = exact_pen(radius, turn, (decimal(low) + decimal(high)) / 2)
            for (least, most), told in zip(pens[at], sure):
                self.same(is_below(near, minus(most, least)), False)
                little = decimal((1, 10 ** 50))
                self.assertTrue(decimal(least) - little < told < decimal(most) + little)
        if back:
            x, y = pen(radius, turn, WEST)
            self.same(pens[-1], ((x, x), (y, y)))
        return pens

    def test_in_order(self):
        for at, (poly, radius, turn) in enumerate(some_held()):
            if any(arm_row(poly, radius, turn)):
                near = [1, (1, 1000), 100, [1, 7], (1, 10 ** 12)][at % 5]
                pens = self.check(poly, radius, turn, near)
                self.same(pens_at(near=near, turn=listed(turn), radius=radius, poly=poly), pens)
            else:
                self.refuses(Misfit("turn"), pens_at, poly, radius, turn, 1)

    def test_where_x_and_y_turn(self):
        # The halves are near 0, 1 and -1, where x is greatest, y is greatest and y is least.
        for radius in (1, 2, 100, (1, 50)):
            for share in ((99, 100), (999, 1000), (14, 15)):
                x_line = Poly([(1, 0, 1), (0, 0, number(-fraction(radius) * fraction(share)))])
                y_line = Poly([(0, 1, 1), (0, 0, number(-fraction(radius) * fraction(share)))])
                low_line = Poly([(0, 1, 1), (0, 0, number(fraction(radius) * fraction(share)))])
                for near in (1, 10, (1, 5), 1000):
                    self.check(x_line, radius, NORTH, near)
                    self.check(y_line, radius, EAST, near)
                    self.check(low_line, radius, WEST, near)

    def test_a_single_wide_box(self):
        # The arm row is (-1, 1, 0, 1, 0): it has a single root, and a wide box around it holds -1, 0 and 1.
        curve = typed("1/2 * y - 1/4 * x ^ 2")
        self.same(arm_row(curve, 1, EAST), (-1, 1, 0, 1, 0))
        for near in (1, 16, 17, 40, 1000):
            self.check(curve, 1, EAST, near)
            self.check(stretched(curve, (1, 7)), (1, 7), EAST, near)

    def test_no_pen(self):
        self.same(pens_at(typed("x - 3"), 1, EAST, 1), ())
        self.same(pens_at(typed("7"), 1, EAST, 1), ())

    def test_the_machine_stands_there(self):
        # Held at 2 a, the second arm at 2 b, the half being the tangent of b: there the built machine stands.
        circle, stood = typed("x * x + y * y - 1"), 0
        for a in some_turns():
            paper = other_arm(circle, (5, 6), doubled(a), 1)
            for low, high in paper.boxes:
                self.same(low, high)
                far = root_of(plus(1, times((low, 0), low)[0]))
                b = (quotient(1, far), quotient(low, far))
                self.same(doubled(b), by_half(low))
                self.same(bool(stands(circle, (5, 6), a, b)), True)
                stood += 1
            self.same(len(paper.boxes) + paper.back, 2)
        self.assertGreater(stood, 15)


class TestErrors(Case):
    def test_each_in_order(self):
        calls = [(arm_row, 0), (other_arm, 1), (pens_at, 1)]
        for call, more in calls:
            for bad in NO_POLYS:
                self.refuses(BadPoly("poly"), call, bad, None, None, *[None] * more)
            for bad in NO_LENGTHS:
                self.refuses(BadNumber("radius"), call, typed("x"), bad, None, *[None] * more)
            for bad in NO_TURNS:
                self.refuses(BadTurn("turn"), call, typed("x"), 1, bad, *[0] * more)
        for call in (other_arm, pens_at):
            for bad in NO_LENGTHS:
                # The circle is all of this curve, so each turn would do.
                self.refuses(BadNumber("near"), call, typed("x * x + y * y - 2 * x"), 1, EAST, bad)
        for poly, radius, turn in ((typed("0"), 1, NORTH), (typed("x * x + y * y - 2 * x"), 1, EAST)):
            self.refuses(Misfit("turn"), pens_at, poly, radius, turn, (1, 9))


class TestPapers(Case):
    def test_parts_and_truth(self):
        for paper in (Halves([[1, 2]], True), Halves(back=True, boxes=((1, 2),))):
            self.same([paper.word, paper.parts, paper.boxes, paper.back, bool(paper)],
                ["halves", (((1, 2),), True), ((1, 2),), True, True])
        self.same([Every().word, Every().parts, bool(Every())], ["every", (), True])
        self.same([Nowhere().word, Nowhere().parts, bool(Nowhere())], ["nowhere", (), False])
        self.same(
            [Every() == Every(), Nowhere() == Nowhere(), Every() == Nowhere(), Every() == Paper("every"),
             Nowhere() == Denial("nowhere"), Halves((), True) == Halves([], True),
             Halves((), True) == Halves((), False)],
            [True, True, False, False, False, True, False])


class TestShortTime(Case):
    def test_degree_4(self):
        turn, radius = by_half((997, 991)), (997, 991)
        poly = Poly([
            (i, j, number(Fraction((-1) ** i * (991 - 7 * i), 983 + 2 * j))) for i in range(5) for j in range(5 - i)])
        start = time.perf_counter()
        arm_row(poly, radius, turn)
        other_arm(poly, radius, turn, (1, 999))
        pens_at(poly, radius, turn, (1, 999))
        self.assertLess(time.perf_counter() - start, 4)


if __name__ == "__main__":
    unittest.main()
