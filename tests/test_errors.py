"""[2]: the errors, their fields and their order of descent."""

import unittest

from typedcurve import errors
from typedcurve.errors import (
    BadLine, BadMachine, BadNumber, BadPaper, BadPlace, BadPoint, BadPoly, BadText, BadTurn, BadWaves, BadWord,
    CurveError,
    Misfit, TooMany)

PART_ERRORS = [
    BadNumber, BadPoint, BadTurn, BadPlace, BadPoly, BadWaves, BadMachine, BadWord, BadPaper, Misfit]
FIELDS = {TooMany: ("what", "most"), BadText: ("line", "item"), BadLine: ("error",)}
FIELDS.update({kind: ("part",) for kind in PART_ERRORS})
ANY_VALUES = ["row", None, 7, True, 0.5, b"x", [1, [2]], (3,), {"a": []}, object(), ValueError("x"), 10 ** 5000,
    BadNumber]


class TestErrors(unittest.TestCase):
    def test_base(self):
        self.assertEqual(CurveError.__bases__, (ValueError,))
        self.assertEqual(CurveError.__module__, "typedcurve.errors")

    def test_all_stand_directly_below_the_base(self):
        for kind in FIELDS:
            self.assertEqual(kind.__bases__, (CurveError,), kind)
            self.assertEqual(kind.__module__, "typedcurve.errors", kind)

    def test_there_are_no_others(self):
        found = {kind for kind in vars(errors).values() if isinstance(kind, type)}
        self.assertEqual(found, set(FIELDS) | {CurveError})

    def test_fields_by_place(self):
        for kind, names in FIELDS.items():
            for value in ANY_VALUES:
                values = [value] + [(value, name) for name in names[1:]]
                made = kind(*values)
                for name, wanted in zip(names, values):
                    self.assertIs(getattr(made, name), wanted)

    def test_fields_by_name(self):
        for kind, names in FIELDS.items():
            for value in ANY_VALUES:
                values = {name: (value, name) for name in reversed(names)}
                made = kind(**values)
                for name in names:
                    self.assertIs(getattr(made, name), values[name])

    def test_no_field_is_left_out_or_added(self):
        for kind, names in FIELDS.items():
            with self.assertRaises(TypeError):
                kind(*names[1:])
            with self.assertRaises(TypeError):
                kind(*names, 1)

    def test_values_stay_as_they_were_passed(self):
        passed = [1, [2]]
        self.assertIs(Misfit(passed).part, passed)
        self.assertEqual(passed, [1, [2]])

    def test_caught_as_base_and_as_value_error(self):
        for kind, names in FIELDS.items():
            for caught in (kind, CurveError, ValueError):
                with self.assertRaises(caught):
                    raise kind(*names)

    def test_caught_as_no_other_one(self):
        for kind, names in FIELDS.items():
            for other in FIELDS:
                self.assertEqual(isinstance(kind(*names), other), kind is other)


if __name__ == "__main__":
    unittest.main()
