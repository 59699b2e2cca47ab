"""The interface: each name is defined in its module, with parameters of the names that are told."""

import importlib
import inspect
import os
import unittest

MODULES = {
    "errors": {
        "BadNumber": "part", "BadPoint": "part", "BadTurn": "part", "BadPlace": "part", "BadPoly": "part",
        "BadWaves": "part",
        "BadMachine": "part", "BadWord": "part", "BadPaper": "part", "Misfit": "part", "TooMany": "what most",
        "BadText": "line item", "BadLine": "error"},
    "checks": {
        "is_integer": "value", "is_within": "value least most", "is_number": "value", "is_point": "value",
        "is_turn": "value"},
    "papers": {"Paper": "word parts", "Denial": "word parts", "fixed": "value"},
    "numbers": {
        "plus": "one other", "minus": "one other", "times": "one other", "quotient": "one other",
        "is_below": "one other",
        "sign_of": "number", "root_of": "number", "number_text": "number", "read_number": "text"},
    "lines": {
        "value_at": "row number", "slope_row": "row", "row_product": "one other", "count_roots": "row low high",
        "roots_of": "row near"},
    "polys": {
        "Poly": "terms", "poly_sum": "one other", "poly_product": "one other", "poly_times": "poly number",
        "value": "poly point", "slope": "poly unknown", "put_in": "poly one other", "moved": "poly point",
        "turned_poly": "poly turn", "stretched": "poly number"},
    "poly_texts": {"poly_text": "poly", "read_poly": "text", "typed": "text"},
    "turns": {
        "added": "one other", "back_turn": "turn", "doubled": "turn", "multiplied": "turn many",
        "turn_between": "one other",
        "turned": "point turn", "by_half": "number", "half_of": "turn"},
    "machines": {"Machine": "many pins bars beads pen", "cut_list": "machine", "islands": "machine"},
    "joins": {
        "renamed": "machine order", "joined": "one other pairs", "without": "machine joints",
        "island_of": "machine joint"},
    "places": {
        "is_place": "value", "place_of": "point aside root", "as_point": "place", "stands_off": "one other",
        "is_far": "one other length", "between": "one other share", "are_kin": "one other",
        "moved_place": "place turn point"},
    "poses": {
        "Right": "", "Torn": "kind at", "judged": "machine places", "shows_pose": "machine value",
        "measured": "machine places", "kin_of": "places joint", "mirrored_aside": "places joint",
        "turned_over": "places joint"},
    "frames": {
        "mirrored": "point one other", "corners": "s t o a b", "is_flat": "o a b", "midpoints": "o a c b",
        "spread": "o a c b"},
    "locks": {
        "lock_for": "s t", "lock_kind": "s t m n", "locked_corners": "s t m n o a b",
        "key_place": "o a c b m side"},
    "words": {"is_word": "value", "made_of": "word", "steps": "words", "word_turn": "word a b"},
    "reflectors": {
        "reflected": "x y", "reflector_points": "x y", "reflector_places": "x y side", "candidates": "x y",
        "reflector_parts": "first x_ray y_ray"},
    "carriers": {
        "carrier_length": "numbers", "carrier_places": "v w length side",
        "carrier_parts": "first v ray number length", "arm_points": "radius one other",
        "arm_parts": "first one_ray other_ray radius"},
    "waves": {
        "Waves": "constant rows", "waves_sum": "one other", "waves_product": "one other", "waves_times": "waves number",
        "exchanged": "waves", "beat_turn": "beat a b", "worth_at": "waves a b", "slopes_at": "waves a b",
        "waves_of": "poly radius", "poly_of": "waves radius", "cosines": "waves"},
    "cells": {"cell_of": "h reach", "cell_places": "h reach v sides", "cell_parts": "first v h reach"},
    "plans": {
        "terms_for": "poly radius", "reach_for": "poly radius", "words_for": "poly radius",
        "count_for": "poly radius"},
    "builds": {"machine_for": "poly radius", "rays_in": "poly radius", "end_in": "poly radius"},
    "stands": {"Stands": "places", "Off": "by", "pen_at": "radius a b", "stands": "poly radius a b"},
    "naive": {
        "naive_machine": "poly radius", "naive_rays": "poly radius", "flipped_turns": "poly radius a b flips",
        "naive_pen": "poly radius a b flips", "naive_stands": "poly radius a b flips",
        "lured": "poly radius a b flips", "strays": "poly radius a b"},
    "arms": {
        "Halves": "boxes back", "Every": "", "Nowhere": "", "arm_row": "poly radius turn",
        "other_arm": "poly radius turn near", "pens_at": "poly radius turn near"},
    "ways": {"Way": "by_a by_b x y", "Knot": "", "way_at": "poly radius a b"},
    "sketches": {"sketch": "poly radius many"},
    "desk": {"Desk": ""},
}


class TestInterface(unittest.TestCase):
    def test_each_name_is_defined_in_its_module(self):
        for module_name, names in MODULES.items():
            module = importlib.import_module("typedcurve." + module_name)
            for name in names:
                self.assertEqual(getattr(module, name).__module__, module.__name__, name)

    def test_parameters(self):
        for module_name, names in MODULES.items():
            module = importlib.import_module("typedcurve." + module_name)
            for name, parameters in names.items():
                self.assertEqual(list(inspect.signature(getattr(module, name)).parameters), parameters.split(), name)

    def test_classes_compare_by_themselves(self):
        for module_name, name in (("papers", "Paper"), ("papers", "Denial"), ("polys", "Poly"), ("waves", "Waves"),
                                  ("machines", "Machine"), ("desk", "Desk")):
            kind = getattr(importlib.import_module("typedcurve." + module_name), name)
            self.assertIn("__eq__", vars(kind))

    def test_methods_are_defined_in_their_class(self):
        kind = importlib.import_module("typedcurve.machines").Machine
        for name, parameters in {
                "__str__": "self", "pins_at": "self joint", "bars_at": "self joint", "beads_at": "self joint",
                "linked": "self joint"}.items():
            self.assertEqual(list(inspect.signature(vars(kind)[name]).parameters), parameters.split(), name)
        self.assertIn("read", vars(kind))
        self.assertEqual(list(inspect.signature(kind.read).parameters), ["text"])

    def test_methods_of_the_desk(self):
        kind = importlib.import_module("typedcurve.desk").Desk
        for name, parameters in {"told": "self line", "back": "self", "twin": "self"}.items():
            self.assertEqual(list(inspect.signature(vars(kind)[name]).parameters), parameters.split(), name)
        self.assertEqual(
            {name: getattr(kind(), name) for name in ("curve", "radius", "arms", "log")},
            {"curve": None, "radius": 1, "arms": None, "log": ()})

    def test_the_package_is_one_folder_of_files(self):
        folder = os.path.dirname(importlib.import_module("typedcurve").__file__)
        for name in os.listdir(folder):
            self.assertTrue(name.endswith(".py") or name == "__pycache__", name)


if __name__ == "__main__":
    unittest.main()
