"""[2]: lists for tuples in each call of every module, at every depth; what is passed is copied and stays."""

import copy
import importlib
import inspect
import unittest

from helpers import Case, listed, mixed, shown, tent
from test_interface import MODULES
from typedcurve.poly_texts import typed
from typedcurve.polys import Poly
from typedcurve.waves import waves_of

LEFT, TOP = ((0, 0), (0, 0), 0), ((2, 0), (0, 1), (5, 1000003))
ASIDE, BROAD = (((1, 2), 0), (0, 1), 2), ((1, (2, 3)), (1, -2), (8, 3))
CIRCLE, ACROSS, HALF_LINE = typed("x * x + y * y - 1"), typed("x"), typed("2 * x - 1")
SLANT, STEEP, NORTH = ((3, 5), (4, 5)), ((5, 13), (-12, 13)), (0, 1)
POSE = (LEFT, ((4, 0), (0, 0), 0), ((2, 0), (0, 1), 5), ((1, 0), (0, 1), (5, 4)))
TORN = POSE[:2] + (ASIDE, BROAD)
FRAME = (((0, 0)), (0, 1), ((6, 5), (-3, 5)), (2, 0))
FLIP = ((2, -2, 0), "parallel", "parallel")

# For each function what it is called with, in tuples; functions of a Poly, a text or the like alone take no lists.
CALLS = {
    "checks": {
        "is_integer": [((1, 2),)], "is_within": [((1, 2), 0, 3)], "is_number": [((1, 2),), ((2, 4),)],
        "is_point": [(((1, 2), 3),), ((1, 2, 3),)], "is_turn": [(SLANT,), ((1, 1),)]},
    "papers": {"fixed": [((1, (2, (3,))),)]},
    "numbers": {
        "plus": [((1, 2), (1, 3))], "minus": [((1, 2), (1, 2)), (0, (1, 2))], "times": [((1, 2), (2, 3)), ((1, 2), 1)],
        "quotient": [((1, 2), (-3, 4)), ((1, 2), 1)], "is_below": [((1, 2), (2, 3))], "sign_of": [((-1, 2),)],
        "root_of": [((9, 4),), ((1, 2),)], "number_text": [((-7, 2),)]},
    "lines": {
        "value_at": [(((1, 2), 0, (3, 4)), (1, 3)), (((1, 2),), 5)],
        "slope_row": [((1, (1, 2), (2, 3)),), (((1, 2),),)],
        "row_product": [(((1, 2), 1), (1, (-2, 3)))],
        "count_roots": [((-2, 0, (1, 2)), (-9, 2), (7, 2)), ((0, 1), None, 1)],
        "roots_of": [((0, (-1, 2), 0, 2), (1, 100)), ((-2, 0, 1), (1, 7)), (((-1, 2), 1), (1, 2))]},
    "polys": {
        "Poly": [(((1, 0, (1, 2)), (0, 0, 3)),)], "poly_times": [(CIRCLE, (1, 2))], "value": [(CIRCLE, ((1, 2), 3))],
        "moved": [(CIRCLE, ((1, 2), -1))], "turned_poly": [(typed("x * y"), SLANT)], "stretched": [(CIRCLE, (-2, 3))]},
    "turns": {
        "added": [(SLANT, STEEP)], "back_turn": [(SLANT,), (NORTH,)], "doubled": [(SLANT,)],
        "multiplied": [(SLANT, 3), (SLANT, 0), (SLANT, -1), (SLANT, 1)], "turn_between": [(SLANT, STEEP)],
        "turned": [(((1, 2), 3), SLANT), ((1, 2), (1, 0))], "by_half": [((1, 2),)], "half_of": [(SLANT,), (NORTH,)]},
    "waves": {
        "Waves": [((1, 2), (((0, 1), (1, 3), 0), ((1, -1), 2, (-1, 2))))],
        "waves_times": [(waves_of(ACROSS, 1), (1, 2))],
        "beat_turn": [((1, -2), SLANT, STEEP)], "worth_at": [(waves_of(CIRCLE, 2), SLANT, NORTH)],
        "slopes_at": [(waves_of(CIRCLE, 2), SLANT, NORTH)], "waves_of": [(CIRCLE, (5, 6))],
        "poly_of": [(waves_of(CIRCLE, 2), (5, 6))]},
    "machines": {
        "Machine": [(4, ((1, ((1, 2), 0)),), ((2, 0, (3, 2)), (1, 2, 3)), ((3, 2, 0, (1, 3)), (3, 0, 1, 1)), 3)]},
    "joins": {
        "renamed": [(tent(), (1, 0, 3, 2))], "joined": [(tent(), tent(), ((3, 2), (2, 3)))],
        "without": [(tent(), (0, 2))]},
    "places": {
        "is_place": [(LEFT,), (ASIDE,), (((0, 0), (2, 0), 3),)],
        "place_of": [(((1, 2), 1), (2, (-4, 3)), (1, 4)), ((0, 0), (1, 2), (2, 3)), (((1, 2), 1), (0, 0), 5)],
        "as_point": [(LEFT,), (ASIDE,), ((((1, 2), 0), (0, 0), 0),)],
        "stands_off": [(LEFT, ASIDE), (ASIDE, BROAD), (BROAD, BROAD)], "is_far": [(LEFT, ASIDE, (3, 2))],
        "between": [
            (LEFT, ASIDE, (1, 2)), (ASIDE, BROAD, 0), (ASIDE, BROAD, 1), (ASIDE, BROAD, (1, 2)), (ASIDE, ASIDE, (1, 3)),
            (TOP, TOP, 0)],
        "are_kin": [(ASIDE, BROAD), (LEFT, ASIDE)],
        "moved_place": [(BROAD, SLANT, ((1, 2), 3)), (LEFT, NORTH, (1, (1, 3)))]},
    "poses": {
        "judged": [(tent(), POSE), (tent(), TORN)], "shows_pose": [(tent(), POSE), (tent(), TORN), (tent(), POSE[:3])],
        "measured": [(tent(), POSE), (tent(), TORN)], "kin_of": [(POSE, 2), (TORN, 2)],
        "mirrored_aside": [(POSE, 2), (TORN, 0)], "turned_over": [(POSE, 2), (TORN, 0)]},
    "frames": {
        "mirrored": [((2, 1), (0, 1), ((1, 2), 0))], "corners": [((1, 2), 1, (0, 0), (0, (1, 2)), (1, 0))],
        "is_flat": [((0, (1, 2)), (0, 1), (2, 0))], "midpoints": [FRAME], "spread": [FRAME]},
    "locks": {
        "lock_for": [((1, 2), (2, 3))], "lock_kind": [(1, 2, (13, 8), (11, 8)), (1, 2, (7, 8), (1, 8))],
        "locked_corners": [(1, 2, (13, 8), (11, 8), (0, 0), (0, 1), (2, 0))], "key_place": [FRAME + ((13, 8), 1)]},
    "words": {
        "is_word": [((2, -4, 1),), ((1, 1, 0),)], "made_of": [((2, -1, 0),), ((1, 0, 0),), ((0, 5, 0),)],
        "steps": [(((2, 0, 2), (3, 0, 0)),), ((),)],
        "word_turn": [((2, -1, 2), SLANT, STEEP), ((1, 0, 0), SLANT, NORTH)]},
    "reflectors": {
        "reflected": [(SLANT, STEEP)], "reflector_points": [(SLANT, STEEP), (SLANT, SLANT)],
        "reflector_places": [(SLANT, STEEP, 1), (NORTH, SLANT, -1)], "candidates": [(SLANT, STEEP), (NORTH, (0, -1))]},
    "carriers": {
        "carrier_length": [(((1, 2), (-1, 3)),)],
        "carrier_places": [((2, (1, 2)), SLANT, (7, 2), 1), ((0, 0), ((1, 2), 1), (7, 2), -1)],
        "carrier_parts": [(43, 42, 15, (-1, 2), (7, 2))], "arm_points": [((5, 6), SLANT, STEEP)],
        "arm_parts": [(37, 15, 27, (5, 6))]},
    "cells": {
        "cell_of": [((1, 2), (5, 3))], "cell_parts": [(51, 46, (1, 2), (5, 3))],
        "cell_places": [((1, 2), (5, 3), ((1, 2), (-1, 3)), (1, -1)), (0, 0, (0, 0), (-1, 1))]},
    "plans": {
        "terms_for": [(CIRCLE, (5, 6)), (typed("y"), (5, 6))], "reach_for": [(CIRCLE, (5, 6))],
        "words_for": [(CIRCLE, (5, 6))], "count_for": [(CIRCLE, (5, 6))]},
    "builds": {
        "machine_for": [(CIRCLE, (5, 6)), (ACROSS, (1, 2))], "rays_in": [(CIRCLE, (5, 6))],
        "end_in": [(CIRCLE, (5, 6))]},
    "stands": {
        "pen_at": [((5, 6), SLANT, STEEP)],
        "stands": [(CIRCLE, (5, 6), (1, 0), ((3, 5), (-4, 5))), (CIRCLE, (5, 6), SLANT, STEEP),
            (typed("0"), (1, 2), SLANT, STEEP)]},
    "naive": {
        "naive_machine": [(CIRCLE, (5, 6))], "naive_rays": [(CIRCLE, (5, 6))],
        "flipped_turns": [(CIRCLE, (5, 6), NORTH, SLANT, (FLIP,)), (CIRCLE, (5, 6), NORTH, SLANT, ())],
        "naive_pen": [(CIRCLE, (5, 6), NORTH, SLANT, (FLIP, ((0, 2, 0), "parallel", "crossed")))],
        "naive_stands": [(CIRCLE, (5, 6), NORTH, SLANT, (FLIP,)), (CIRCLE, (5, 6), NORTH, SLANT, ())],
        "lured": [(CIRCLE, (5, 6), NORTH, SLANT, (FLIP,))], "strays": [(CIRCLE, (5, 6), NORTH, SLANT)]},
    "arms": {
        "arm_row": [(CIRCLE, (5, 6), SLANT)],
        "other_arm": [(CIRCLE, (5, 6), SLANT, (1, 9)), (HALF_LINE, 1, NORTH, (1, 9))],
        "pens_at": [(CIRCLE, (5, 6), SLANT, (1, 9)), (HALF_LINE, 1, NORTH, (1, 9))]},
    "ways": {"way_at": [(CIRCLE, (5, 6), (1, 0), ((3, 5), (-4, 5))), (typed("0"), (1, 2), SLANT, NORTH)]},
    "sketches": {"sketch": [(CIRCLE, (5, 6), 2)]},
}
# Nothing that these are passed is told as a list, a tuple, or the like.
NO_LISTS_TOLD = {
    "read_number", "poly_sum", "poly_product", "slope", "put_in", "poly_text", "read_poly", "typed", "waves_sum",
    "waves_product", "exchanged", "cosines", "cut_list", "islands", "island_of", "reflector_parts"}


def called():
    """Each function, each way of calling it, all in tuples."""
    for module, table in CALLS.items():
        for name, rows in table.items():
            for values in rows:
                yield getattr(importlib.import_module("typedcurve." + module), name), values


def has_list(value):
    return isinstance(value, list) or (isinstance(value, tuple) and any(has_list(item) for item in value))


def spoil(value):
    """Changes each list within a value."""
    if isinstance(value, (list, tuple)):
        for item in value:
            spoil(item)
    if isinstance(value, list):
        value.append("spoilt")


class TestLists(Case):
    def test_each_function_is_called(self):
        for module, names in MODULES.items():
            for name in names:
                kind = getattr(importlib.import_module("typedcurve." + module), name)
                if module != "errors" and (not inspect.isclass(kind) or name in ("Poly", "Waves", "Machine")):
                    self.same(name in CALLS.get(module, {}) or name in NO_LISTS_TOLD, True)

    def test_lists_and_tuples_are_answered_alike(self):
        for call, values in called():
            wanted = shown(call(*values))
            self.same(has_list(wanted), False)
            self.same(shown(call(*listed(values))), wanted)
            self.same(shown(call(*mixed(values))), wanted)
            self.same(shown(call(*mixed(values, 1))), wanted)

    def test_by_name(self):
        for call, values in called():
            names = list(inspect.signature(call).parameters)
            turned = dict(reversed(list(zip(names, listed(values)))))
            self.same(shown(call(**turned)), shown(call(*values)))

    def test_what_is_passed_stays(self):
        for call, values in called():
            for passed in (listed(values), mixed(values)):
                before = copy.deepcopy([shown(value) for value in passed])
                call(*passed)
                self.same([shown(value) for value in passed], before)

    def test_what_is_passed_is_copied(self):
        for call, values in called():
            passed = listed(values)
            got = call(*passed)
            before = repr(shown(got))
            spoil(passed)
            self.assertEqual(repr(shown(got)), before)

    def test_what_was_returned_may_be_passed_on(self):
        self.same(Poly(listed(CIRCLE.terms)) == CIRCLE, True)
        for call, values in called():
            again = call(*values)
            self.same(shown(again), shown(call(*values)))
            self.same(again == call(*values), True)


if __name__ == "__main__":
    unittest.main()
