"""[1]: the whole program: a curve typed, built, standing; the naive machine beside it; the second arm; a desk."""

import unittest
from itertools import product

from helpers import Case, fraction, number, some_turns, times, total, value_of
from typedcurve.arms import Every, other_arm, pens_at
from typedcurve.builds import end_in, machine_for, rays_in
from typedcurve.desk import Desk
from typedcurve.machines import Machine
from typedcurve.naive import lured, naive_machine, naive_pen, naive_rays, naive_stands, strays
from typedcurve.numbers import number_text, plus, quotient, root_of
from typedcurve.numbers import times as product_of
from typedcurve.places import as_point
from typedcurve.plans import count_for, reach_for
from typedcurve.poly_texts import poly_text, read_poly, typed
from typedcurve.polys import value
from typedcurve.poses import Right, judged, shows_pose
from typedcurve.sketches import sketch
from typedcurve.stands import Off, pen_at, stands
from typedcurve.turns import added, by_half, doubled, half_of
from typedcurve.waves import poly_of, waves_of
from typedcurve.ways import way_at

EAST, NORTH = (1, 0), (0, 1)
TEXTS = ["x", "y - 1/2 * x", "x * x + y * y - 1", "x * y", "y ^ 2 - x ^ 3", "( x - 1 ) ^ 2 + y ^ 2 - 1", "0", "3"]


def half_turn(turn):
    """The turn that added to itself is this one, None if it is none of numbers or (-1, 0)."""
    half = half_of(turn)
    far = None if half is None else root_of(plus(1, product_of(half, half)))
    return None if far is None else (quotient(1, far), quotient(half, far))


class TestTypedBuiltStanding(Case):
    def test_wherever_the_pen_stands(self):
        stood = 0
        for text, radius in product(TEXTS, (1, (5, 6))):
            curve = typed(text)
            machine = Machine.read(str(machine_for(curve, radius)))
            for a, b in product(some_turns()[::3], [NORTH, (-1, 0), ((3, 5), (-4, 5)), ((-4, 5), (3, 5))]):
                off = value_of(curve, pen_at(radius, a, b))
                paper = stands(curve, radius, a, b)
                self.same(bool(paper), off == 0)
                if paper:
                    stood += 1
                    self.same(judged(machine, paper.places) == Right(), True)
                    self.same(as_point(paper.places[machine.pen]), pen_at(radius, a, b))
                    self.same(value(curve, as_point(paper.places[machine.pen])), 0)
                else:
                    self.same(paper == Off(number(off)), True)
        self.assertGreater(stood, 40)

    def test_the_last_end_tells_the_value(self):
        # The x of the last end is f at the pen, less k: with all terms of f, whatever its constant.
        for text in TEXTS[:6]:
            curve = typed(text)
            for a, b in zip(some_turns(), some_turns()[2:]):
                other = lured(curve, (5, 6), a, b, [])
                places, machine = stands(other, (5, 6), a, b).places, machine_for(other, (5, 6))
                x, _ = as_point(places[end_in(other, (5, 6))])
                k = fraction(waves_of(curve, (5, 6)).constant)
                self.same(fraction(x), value_of(curve, pen_at((5, 6), a, b)) - k)
                self.assertLessEqual(abs(fraction(x)), fraction(reach_for(curve, (5, 6))))
                self.same(shows_pose(machine, places), True)

    def test_texts_and_waves_again(self):
        for text in TEXTS:
            curve = typed(text)
            self.same(read_poly(poly_text(curve)) == curve, True)
            self.same(poly_of(waves_of(curve, (5, 6)), (5, 6)) == curve, True)


class TestBesideTheNaiveMachine(Case):
    def test_the_same_rays_stand_alike(self):
        for text in TEXTS[:5]:
            for a, b in zip(some_turns()[1:], some_turns()[4:]):
                curve = lured(typed(text), (5, 6), a, b, [])
                built, naive = stands(curve, (5, 6), a, b).places, naive_stands(curve, (5, 6), a, b, []).places
                for (word, joint), (other, less) in zip(rays_in(curve, (5, 6)), naive_rays(curve, (5, 6))):
                    self.same((word, built[joint:joint + 3]), (other, naive[less:less + 3]))
                self.same(built[-9:], naive[-9:])

    def test_it_strays_where_the_built_one_does_not(self):
        circle, a, b = typed("x * x + y * y - 1"), NORTH, ((3, 5), (4, 5))
        (flip, pen, off), = strays(circle, (5, 6), a, b)
        self.same(bool(stands(circle, (5, 6), a, b)), False)
        self.same(value(circle, pen), off)
        places = naive_stands(circle, (5, 6), a, b, [flip]).places
        machine = naive_machine(circle, (5, 6))
        self.same((shows_pose(machine, places), as_point(places[machine.pen])), (True, pen))
        self.same(pen, naive_pen(circle, (5, 6), a, b, [flip]))
        # No pose of the built machine has its pen there, as f is not 0 there.
        self.assertNotEqual(off, 0)


class TestTheSecondArm(Case):
    def test_the_machine_stands_at_halves_that_are_told(self):
        stood = 0
        for text, radius in (("x * x + y * y - 1", (5, 6)), ("x", 1), ("y - 1/2 * x", 2), ("x * y", (7, 2)),
                ("( x - 1 ) ^ 2 + y ^ 2 - 1", 1)):
            curve = typed(text)
            for a in some_turns():
                paper = other_arm(curve, radius, doubled(a), (1, 8))
                if paper == Every() or not paper:
                    continue
                pens = pens_at(curve, radius, doubled(a), (1, 8))
                turns = [by_half(low) if low == high else None for low, high in paper.boxes]
                for turn, boxes in zip(turns + [(-1, 0)] * paper.back, pens):
                    if turn is None:
                        continue
                    pen = times(total(doubled(a), turn), radius)
                    self.same([boxes, value(curve, pen)], [tuple((part, part) for part in pen), 0])
                    b = NORTH if turn == (-1, 0) else half_turn(turn)
                    if b is not None:
                        stood += 1
                        places = stands(curve, radius, a, b).places
                        machine = machine_for(curve, radius)
                        self.same((shows_pose(machine, places), places[machine.pen][0]), (True, pen))
                        way = way_at(curve, radius, a, b)
                        self.same(bool(way) or way.word == "knot", True)
        self.assertGreater(stood, 30)

    def test_each_turn_will_do(self):
        # The circle about the first arm's end belongs to this curve.
        curve = typed("x * x + y * y - 2 * x")
        self.same(other_arm(curve, 1, EAST, 1) == Every(), True)
        for b in some_turns():
            self.same(bool(stands(curve, 1, EAST, b)), True)


class TestADesk(Case):
    def test_beside_the_functions(self):
        desk = Desk()
        for text in TEXTS:
            curve = typed(text)
            self.same(desk.told("curve " + text), poly_text(curve))
            for radius, one, other in (("5/6", "0", "-1/2"), ("1", "1/3", "2"), ("7/2", "-1", "1")):
                desk.told("radius " + radius)
                answer = desk.told(f"stand {one} {other}")
                a, b = desk.arms
                self.same(answer == "yes", bool(stands(curve, desk.radius, a, b)))
                self.same(desk.told("count"), "{} {}".format(*count_for(curve, desk.radius)))
                self.same(desk.told("sketch 5"), "|".join(sketch(curve, desk.radius, 5)))
                self.same(desk.told("pen"), " ".join(map(number_text, pen_at(desk.radius, a, b))))
                if answer == "yes":
                    machine = machine_for(curve, desk.radius)
                    self.same(shows_pose(machine, stands(curve, desk.radius, a, b).places), True)
        again = Desk()
        for line in desk.log:
            again.told(line)
        self.same((again == desk, again.told("cut")), (True, desk.told("cut")))

    def test_what_is_typed_is_drawn(self):
        # The text of the curve's answer may be typed again, with * between its items.
        desk, other = Desk(), Desk()
        for text in TEXTS:
            answer = desk.told("curve " + text)
            terms = [" * ".join(term.split(" ")) for term in answer.split(" + ")]
            self.same(other.told("curve " + " + ".join(terms)), answer)

    def test_turned_on(self):
        # While both arms are turned alike the pen stays on a circle about O.
        for turn in some_turns():
            a, b = added(EAST, turn), added(((3, 5), (-4, 5)), turn)
            self.same(bool(stands(typed("x * x + y * y - 1"), (5, 6), a, b)), True)
            self.same(way_at(typed("x * x + y * y - 1"), (5, 6), a, b).parts[:2], (1, 1))


if __name__ == "__main__":
    unittest.main()
