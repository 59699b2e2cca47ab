"""[13]: the naive machine."""

import time
import unittest
from fractions import Fraction
from itertools import product
from unittest.mock import patch

from helpers import (
    NO_LENGTHS, NO_POLYS, NO_TURNS, NO_WORDS, Case, fraction, listed, mixed, number, shown, some_poly, some_turns,
    through, times, total, value_of)
from typedcurve.builds import machine_for, rays_in
from typedcurve.errors import BadNumber, BadPoly, BadTurn, BadWord, Misfit, TooMany
from typedcurve.frames import mirrored
from typedcurve.machines import Machine
from typedcurve.naive import (
    flipped_turns, lured, naive_machine, naive_pen, naive_rays, naive_stands, strays)
from typedcurve.places import is_place
from typedcurve.plans import terms_for, words_for
from typedcurve.poly_texts import poly_text, typed
from typedcurve.polys import Poly, value
from typedcurve.poses import Right, judged
from typedcurve.reflectors import candidates
from typedcurve.stands import Off, Stands, pen_at, stands
from typedcurve.turns import by_half
from typedcurve.waves import waves_of
from typedcurve.words import made_of, word_turn

O, EAST, NORTH, WEST = (0, 0), (1, 0), (0, 1), (-1, 0)
THIRD = ((3, 5), (4, 5))
WAYS = ("crossed", "parallel")
ALL_WAYS = list(product(WAYS, WAYS))
SINGLE = ALL_WAYS[1:]
WITH_FLIPS = [flipped_turns, naive_pen, naive_stands, lured]
NO_WAYS = [None, True, 0, 1, "", "flat", "Crossed", "cross", "crossed ", b"crossed", ["crossed"], ("parallel",),
    object()]


def some_polys():
    return [typed("x"), typed("y"), typed("x * x + y * y - 1"), typed("x * y"), typed("0"), typed("-5/2"),
        some_poly(4, 2, 4), some_poly(9, 3, 3)]


def some_cases():
    """Polynomials with a radius, two turns, and flips of none, one, some and all words."""
    turns, radii = some_turns(), [1, (5, 6), [7, 3]]
    pairs = [(NORTH, THIRD), (EAST, EAST), (THIRD, ((-3, 5), (-4, 5))), (turns[6], turns[8]),
        ([0, 1], [[-3, 5], [4, 5]])]
    for at, poly in enumerate(some_polys()):
        for a, b in pairs:
            radius = radii[at % 3]
            words = words_for(poly, radius)
            yield poly, radius, a, b, []
            for turn in range(4):
                one = words[(3 * at + turn) % len(words)]
                yield poly, radius, a, b, [(one,) + ALL_WAYS[turn]]
                many = [(word,) + ALL_WAYS[(index * turn + at + 1) % 4] for index, word in enumerate(words)]
                yield poly, radius, a, b, many[::-1] if turn % 2 else many[::turn + 1]


def told_turns(poly, radius, a, b, flips):
    """The turn of each ray, from the candidates of its reflector, and how all frames stand."""
    frames = {tuple(word): (big, small) for word, big, small in flips}
    turns = {(0, 0, 0): EAST, (1, 0, 0): times(a, 1), (0, 1, 0): times(b, 1), (0, 0, 1): ((4, 5), (3, 5))}
    for word in words_for(poly, radius):
        x, y = made_of(word)
        turns[word] = dict(candidates(turns[x], turns[y]))[frames.get(word, ("crossed", "crossed"))]
    return turns, frames


def told_sum(poly, radius, turns):
    """The constant and all terms' numbers times the cosines of their rays."""
    made = fraction(waves_of(poly, radius).constant)
    for word, factor in terms_for(poly, radius):
        made += fraction(factor) * fraction(turns[word][0])
    return made


class TestExamples(Case):
    def setUp(self):
        self.across, self.circle = typed("x"), typed("x * x + y * y - 1")
        self.flip = ((2, -2, 0), "parallel", "parallel")

    def test_machine(self):
        machine = naive_machine(self.circle, (5, 6))
        self.same(
            [machine.many, len(machine.bars), naive_rays(self.circle, (5, 6))[4:]],
            [43, 26, (((2, 0, 0), 15), ((0, 2, 0), 20), ((2, -2, 0), 25))])

    def test_turns(self):
        self.same(
            flipped_turns(self.circle, (5, 6), NORTH, THIRD, [])[4:],
            (((2, 0, 0), (-1, 0)), ((0, 2, 0), ((-7, 25), (24, 25))), ((2, -2, 0), ((7, 25), (24, 25)))))
        self.same(
            [flipped_turns(self.circle, (5, 6), NORTH, THIRD, [self.flip])[6],
             naive_pen(self.circle, (5, 6), NORTH, THIRD, [self.flip])],
            [((2, -2, 0), ((-7, 25), (24, 25))), ((-16, 15), (4, 5))])

    def test_stands(self):
        self.same(
            [naive_stands(self.circle, (5, 6), NORTH, THIRD, []),
             bool(naive_stands(self.circle, (5, 6), NORTH, THIRD, [self.flip]))] == [Off((7, 9)), True], True)

    def test_strays(self):
        self.same(
            strays(self.circle, (5, 6), NORTH, THIRD),
            ((((2, -2, 0), 'parallel', 'parallel'), ((-16, 15), (4, 5)), (7, 9)),))
        self.same(
            [poly_text(lured(self.circle, (5, 6), NORTH, THIRD, [])), strays(self.across, 1, NORTH, NORTH)],
            ['1 x x + 1 y y + -16/9', ()])

    def test_errors(self):
        self.refuses(
            Misfit("flips"), naive_stands, self.across, 1, NORTH, NORTH, [((2, -2, 0), "parallel", "crossed")])
        self.refuses(
            BadWord("flips"), flipped_turns, self.across, 1, NORTH, NORTH, [((2, 0, 0), "parallel", "flat")])


class TestMachines(Case):
    def test_without_the_locks_of_the_reflectors(self):
        for poly in some_polys():
            for radius in (1, (5, 6)):
                built, words = machine_for(poly, radius), words_for(poly, radius)
                left = [joint for joint in range(built.many)
                    if joint < 13 or joint >= 13 + 12 * len(words) or (joint - 13) % 12 < 5]
                names = {joint: at for at, joint in enumerate(left)}
                pins = [(names[joint], point) for joint, point in built.pins]
                bars = [(names[one], names[other], length) for one, other, length in built.bars
                    if one in names and other in names]
                beads = [(names[joint], names[one], names[other], share) for joint, one, other, share in built.beads
                    if joint in names and one in names and other in names]
                machine = naive_machine(poly, radius)
                self.same(shown(machine), shown(Machine(len(left), pins, bars, beads, names[built.pen])))
                self.same(
                    (machine.many, len(machine.bars)),
                    (built.many - 7 * len(words), len(built.bars) - 8 * len(words)))
                # The lock of the cell stays: its key has its four bars.
                self.same(len(machine.bars_at(machine.many - 1)), 4)
                rays = tuple((word, names[joint]) for word, joint in rays_in(poly, radius))
                self.same(naive_rays(poly, radius), rays)
                self.same(naive_machine(radius=radius, poly=poly) == machine, True)
                self.same(naive_rays(radius=radius, poly=poly), naive_rays(poly, radius))

    def test_errors(self):
        for call in (naive_machine, naive_rays):
            for bad in NO_POLYS:
                self.refuses(BadPoly("poly"), call, bad, None)
            for bad in NO_LENGTHS:
                self.refuses(BadNumber("radius"), call, typed("x"), bad)


class TestTurns(Case):
    def test_against_candidates(self):
        for poly, radius, a, b, flips in some_cases():
            turns, _ = told_turns(poly, radius, a, b, flips)
            words = [(0, 0, 0), (1, 0, 0), (0, 1, 0), (0, 0, 1)] + list(words_for(poly, radius))
            self.same(flipped_turns(poly, radius, a, b, flips), tuple((word, turns[word]) for word in words))
            pen = times(total(turns[2, 0, 0], turns[0, 2, 0]), radius)
            self.same(naive_pen(poly, radius, a, b, flips), pen)

    def test_without_flips(self):
        for poly, radius, a, b, flips in some_cases():
            if not flips:
                for word, turn in flipped_turns(poly, radius, a, b, flips):
                    self.same(turn, word_turn(word, a, b))
                self.same(naive_pen(poly, radius, a, b, ()), pen_at(radius, a, b))

    def test_a_flip_that_says_crossed_twice(self):
        for poly, radius, a, b, flips in some_cases():
            if not flips:
                crossed = [(word, "crossed", "crossed") for word in words_for(poly, radius)]
                for call in WITH_FLIPS:
                    self.same(shown(call(poly, radius, a, b, crossed)), shown(call(poly, radius, a, b, [])))

    def test_flips_of_those_of_which_it_is_made(self):
        # The ray of (2, -2, 0) is made of a and (0, 2, 0); the flip of this one goes along.
        circle = typed("x * x + y * y - 1")
        for ways in SINGLE:
            turns = dict(flipped_turns(circle, 1, NORTH, THIRD, [((0, 2, 0),) + ways]))
            self.same(turns[0, 2, 0], dict(candidates(THIRD, EAST))[ways])
            self.same(turns[2, -2, 0], dict(candidates(NORTH, turns[0, 2, 0]))["crossed", "crossed"])

    def test_in_any_order_and_as_lists(self):
        for at, (poly, radius, a, b, flips) in enumerate(some_cases()):
            if at % 7 == 0:
                for call in WITH_FLIPS:
                    wanted = shown(call(poly, radius, a, b, flips))
                    self.same(shown(call(poly, radius, a, b, tuple(flips[::-1]))), wanted)
                    self.same(shown(call(poly, listed(radius), listed(a), listed(b), listed(flips))), wanted)
                    self.same(shown(call(flips=mixed(flips), b=mixed(b), a=a, radius=radius, poly=poly)), wanted)


class TestStands(Case):
    def check(self, poly, radius, a, b, flips):
        paper, machine = naive_stands(poly, radius, a, b, flips), naive_machine(poly, radius)
        self.assertIs(type(paper), Stands)
        places = paper.places
        self.same([is_place(place) for place in places], [True] * machine.many)
        self.same(judged(machine, places) == Right(), True)
        self.same((places[4], places[7]), ((times(a, 4), O, 0), (times(b, 4), O, 0)))
        self.same(places[machine.pen][0], naive_pen(poly, radius, a, b, flips))
        turns, frames = told_turns(poly, radius, a, b, flips)
        for word, joint in naive_rays(poly, radius):
            self.same(places[joint][0], times(turns[word], 4))
            if joint > 12:
                self.check_frames(places[joint - 2:joint + 1], turns, word, frames.get(word, ("crossed", "crossed")))
        return places

    def check_frames(self, places, turns, word, frames):
        """D, C and R of a reflector stand as the frames are told to."""
        (d, *_), (c, *_), (end, *_) = places
        x, y = [turns[part] for part in made_of(word)]
        b_x, parallel = times(x, 2), total(y, times(x, 2))
        self.same(c, parallel if frames[1] == "parallel" else mirrored(parallel, y, b_x))
        parallel = total(d, times(x, -2))
        self.same(end, parallel if frames[0] == "parallel" else mirrored(parallel, O, d))

    def test_off_or_standing(self):
        for poly, radius, a, b, flips in some_cases():
            turns, _ = told_turns(poly, radius, a, b, flips)
            by = told_sum(poly, radius, turns)
            if by:
                paper = naive_stands(poly, radius, a, b, flips)
                self.assertIs(type(paper), Off)
                self.same(paper.by, number(by))
            else:
                self.check(poly, radius, a, b, flips)

    def test_lured(self):
        for poly, radius, a, b, flips in list(some_cases())[::2]:
            turns, _ = told_turns(poly, radius, a, b, flips)
            by = told_sum(poly, radius, turns)
            other = lured(poly, radius, a, b, flips)
            self.assertIs(type(other), Poly)
            constants = {(i, j): fraction(factor) for i, j, factor in poly.terms}
            constant = constants.pop((0, 0), Fraction(0)) - by
            if constant:
                constants[0, 0] = constant
            self.same(other.terms, tuple((i, j, number(constants[i, j])) for i, j in sorted(constants)))
            self.check(other, radius, a, b, flips)
            self.same(terms_for(other, radius), terms_for(poly, radius))

    def test_lured_with_the_constant_0(self):
        self.same(lured(typed("x - 5"), 1, EAST, NORTH, []) == typed("x"), True)
        self.same(lured(typed("7"), 1, EAST, NORTH, []) == typed("0"), True)
        self.same(lured(typed("0"), 1, EAST, NORTH, [((2, 0, 0), "parallel", "crossed")]) == typed("0"), True)

    def test_with_the_locks(self):
        # Without flips the naive machine stands just where the built one does, at the same places.
        for poly, radius, a, b, flips in some_cases():
            if not flips:
                curve = through(poly, radius, a, b)
                for one in (poly, curve):
                    built, paper = stands(one, radius, a, b), naive_stands(one, radius, a, b, [])
                    self.same(bool(built), bool(paper))
                    if not built:
                        self.same(built == paper, True)
                    else:
                        words = len(words_for(one, radius))
                        left = [joint for joint in range(len(built.places))
                            if joint < 13 or joint >= 13 + 12 * words or (joint - 13) % 12 < 5]
                        self.same(paper.places, tuple(built.places[joint] for joint in left))

    def test_the_same_spots_where_frames_are_flat(self):
        # With a and b to the east all frames of x are flat: crossed and parallel are one.
        across = typed("x - 2")
        poses = [naive_stands(across, 1, EAST, EAST, [((2, 0, 0),) + ways]).places for ways in ALL_WAYS]
        self.same(poses, poses[:1] * 4)


class TestStrays(Case):
    def told_strays(self, poly, radius, a, b):
        found = []
        for word in words_for(poly, radius):
            for ways in SINGLE:
                flip = (word,) + ways
                turns, _ = told_turns(poly, radius, a, b, [flip])
                pen = times(total(turns[2, 0, 0], turns[0, 2, 0]), radius)
                off = value_of(poly, pen)
                if told_sum(poly, radius, turns) == 0 and off:
                    found.append((flip, pen, number(off)))
        return tuple(found)

    def test_all_single_flips(self):
        met = 0
        for poly, radius, a, b, flips in [case for case in some_cases() if len(case[4]) < 2][::3]:
            curve = lured(poly, radius, a, b, flips)
            wanted = self.told_strays(curve, radius, a, b)
            self.same(strays(curve, radius, a, b), wanted)
            met += len(wanted)
            for flip, pen, off in wanted:
                self.same(bool(naive_stands(curve, radius, a, b, [flip])), True)
                self.same(naive_pen(curve, radius, a, b, [flip]), pen)
                self.same(value(curve, pen), off)
        self.assertGreater(met, 20)

    def test_x_never_strays(self):
        for a, b in product(some_turns()[::2], some_turns()[1::3]):
            for ways in ALL_WAYS:
                flips = [((2, 0, 0),) + ways, ((0, 2, 0), "parallel", "crossed")]
                curve = lured(typed("x"), 1, a, b, flips)
                self.same(value(curve, naive_pen(curve, 1, a, b, flips)), 0)
                self.same(strays(curve, 1, a, b), ())

    def test_by_name_and_as_lists(self):
        wanted = strays(typed("x * x + y * y - 1"), (5, 6), NORTH, THIRD)
        self.same(strays(b=[[3, 5], [4, 5]], a=[0, 1], radius=[5, 6], poly=typed("x * x + y * y - 1")), wanted)

    def test_errors(self):
        for bad in NO_POLYS:
            self.refuses(BadPoly("poly"), strays, bad, None, None, None)
        for bad in NO_LENGTHS:
            self.refuses(BadNumber("radius"), strays, typed("x"), bad, None, None)
        for bad in NO_TURNS:
            self.refuses(BadTurn("a"), strays, typed("x"), 1, bad, bad)
            self.refuses(BadTurn("b"), strays, typed("x"), 1, EAST, bad)


class TestErrors(Case):
    def test_ahead_of_the_flips(self):
        for call in WITH_FLIPS:
            for bad in NO_POLYS:
                self.refuses(BadPoly("poly"), call, bad, None, None, None, None)
            for bad in NO_LENGTHS:
                self.refuses(BadNumber("radius"), call, typed("x"), bad, None, None, None)
            for bad in NO_TURNS:
                self.refuses(BadTurn("a"), call, typed("x"), 1, bad, bad, None)
                self.refuses(BadTurn("b"), call, typed("x"), 1, EAST, bad, None)

    def test_flips(self):
        flip, far = ((2, 0, 0), "crossed", "parallel"), ((2, 2, 2), "crossed", "parallel")
        wrong = [None, True, 0, "", "crossed", {}, {(2, 0, 0): ("crossed", "crossed")}, {flip}, object(), flip]
        wrong += [[word] for word in NO_WORDS] + [[(word, "crossed", "crossed")] for word in NO_WORDS]
        wrong += [[((2, 0, 0), bad, "crossed")] for bad in NO_WAYS]
        wrong += [[((2, 0, 0), "parallel", bad)] for bad in NO_WAYS]
        wrong += [[()], [((2, 0, 0),)], [((2, 0, 0), "crossed")], [flip + ("crossed",)], [flip, None]]
        wrong += [[flip, flip], [flip, ([2, 0, 0], "crossed", "crossed")], [far, flip, listed(far)]]
        for call in WITH_FLIPS:
            for bad in wrong:
                self.refuses(BadWord("flips"), call, typed("x"), 1, EAST, NORTH, bad)

    def test_words_of_no_reflector(self):
        flip = ((2, 0, 0), "crossed", "parallel")
        for call in WITH_FLIPS:
            for word in ((0, 0, 0), (1, 0, 0), (0, 1, 0), [0, 0, 1], (2, 2, 2), (4, 0, 0), (0, 0, 2), (24, 0, 0)):
                other = (word, "crossed", "crossed")
                for flips in ([other], [flip, other], (other, flip)):
                    self.refuses(Misfit("flips"), call, typed("x"), 1, EAST, NORTH, flips)
            self.refuses(Misfit("flips"), call, typed("0"), 1, EAST, NORTH, [((2, -2, 0), "crossed", "crossed")])


    def test_room(self):
        # As no machine is too great, the most is told as less here: the built machine of x has 60 joints.
        flip, far = ((2, 0, 0), "crossed", "parallel"), ((2, 2, 0), "crossed", "parallel")
        calls = [(call, ()) for call in (naive_machine, naive_rays)] + [(strays, (EAST, NORTH))]
        calls += [(call, (EAST, NORTH, [flip])) for call in WITH_FLIPS]
        with patch.object(Machine, "MOST", 59):
            for call, values in calls:
                self.refuses(TooMany("joints", 59), call, typed("x"), 1, *values)
                self.refuses(BadNumber("radius"), call, typed("x"), 0, *values)
            for call in WITH_FLIPS:
                self.refuses(Misfit("flips"), call, typed("x"), 1, EAST, NORTH, [flip, far])
        with patch.object(Machine, "MOST", 60):
            for call, values in calls:
                call(typed("x"), 1, *values)


class TestShortTime(Case):
    def test_degree_4(self):
        a, b, radius = by_half((997, 991)), by_half((-983, 977)), (997, 991)
        poly = Poly([(i, j, number(Fraction(991 - 7 * i, 983 + 2 * j))) for i in range(5) for j in range(5 - i)])
        start = time.perf_counter()
        flips = [(word, "parallel", "crossed") for word in words_for(poly, radius)[::9]]
        curve = lured(poly, radius, a, b, flips)
        self.same(bool(naive_stands(curve, radius, a, b, flips)), True)
        strays(curve, radius, a, b)
        self.assertLess(time.perf_counter() - start, 6)


if __name__ == "__main__":
    unittest.main()
