"""What the tests share: an independent arithmetic by Python's fractions, and a test of errors."""

import unittest
from fractions import Fraction

# No one of these is a number: wrong kinds, wrong lengths, and pairs that are not in their one form.
NO_NUMBERS = [
    True, False, None, "1", "1/2", "", 0.5, 1.0, 1j, b"1", {}, {1: 2}, set(), [], (), (1,), [7], (1, 2, 3),
    [1, 2, 3, 4], (4, 2), (2, 4), (3, 1), (-3, 1), (1, -2), (1, 0), (0, 1), (0, 5), (0, 0), (1, True), (True, 2),
    (1, 2.0), ("1", 2), (None, 2), ((1, 2), 3), [[1, 2]], (1, (2,)), object(), int, [1, None],
]

# No one of these is a point.
NO_POINTS = [
    True, None, 0, 7, (1,), [], (1, 2, 3), [0, 0, 0], "00", b"00", {0: 0, 1: 0}, 0.0, (1, True), (False, 0), (0, None),
    ((1, 2), 0.5), (0, "1"), ((4, 2), 0), (0, (3, 1)), ((1, 2, 3), 1), ([], []), ((0, 0), 0, 0),
]

# No one of these is a turn; some are points.
NO_TURNS = NO_POINTS + [
    (0, 0), (1, 1), (2, 0), (0, -2), ((1, 2), (1, 2)), ((3, 5), (3, 5)), ((3, 5), (4, 7)), ((1, 2), (3, 5)),
    (1, (1, 2)),
]


def number(fraction):
    """The number in its one form, of a fraction."""
    fraction = Fraction(fraction)
    if fraction.denominator == 1:
        return fraction.numerator
    return fraction.numerator, fraction.denominator


def fraction(value):
    """The fraction of a number."""
    return Fraction(value) if isinstance(value, int) else Fraction(value[0], value[1])


def fractions(values):
    """The fractions of a list of numbers, a point or a turn."""
    return [fraction(value) for value in values]


def some_turns():
    """Turns of all quarters, as they are told."""
    return [
        (1, 0), (0, 1), (-1, 0), (0, -1), ((3, 5), (4, 5)), ((-3, 5), (4, 5)), ((-4, 5), (-3, 5)), ((5, 13), (-12, 13)),
        ((-20, 29), (21, 29)), ((119, 169), (120, 169)),
    ]


def turn_times(turn, many):
    """A turn many times, as a pair of fractions."""
    c, s = fractions(turn)
    if many < 0:
        s, many = -s, -many
    x, y = Fraction(1), Fraction(0)
    for _ in range(many):
        x, y = c * x - s * y, s * x + c * y
    return x, y


class Case(unittest.TestCase):
    """A test case that compares errors with their fields, and values with their kinds."""

    def refuses(self, error, call, *values, **named):
        """The call raises an error of this very class, with these very fields."""
        try:
            got = call(*values, **named)
        except ValueError as raised:
            self.assertIs(type(raised), type(error), f"{raised!r} in the place of {error!r}: {values!r} {named!r}")
            self.assertEqual(vars(raised), vars(error), f"{values!r} {named!r}")
            return
        self.fail(f"{got!r} in the place of {error!r}: {values!r} {named!r}")

    def same(self, got, wanted):
        """Both are equal, and of the same kinds throughout."""
        self.assertEqual(repr(got), repr(wanted))
