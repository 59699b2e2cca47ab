"""What the tests share: an independent arithmetic by Python's fractions, and a test of errors."""

import unittest
from decimal import Decimal, getcontext
from fractions import Fraction
from itertools import product
from random import Random

from typedcurve.machines import Machine
from typedcurve.papers import Paper
from typedcurve.polys import Poly, poly_sum
from typedcurve.waves import Waves

# Decimals tell where places stand, far more exactly than the tests ask for.
getcontext().prec = 120

# No one of these is a number: wrong kinds, wrong lengths, and pairs that are not in their one form.
NO_NUMBERS = [
    True, False, None, "1", "1/2", "", 0.5, 1.0, 1j, b"1", {}, {1: 2}, set(), [], (), (1,), [7], (1, 2, 3),
    [1, 2, 3, 4], (4, 2), (2, 4), (3, 1), (-3, 1), (1, -2), (1, 0), (0, 1), (0, 5), (0, 0), (1, True), (True, 2),
    (1, 2.0), ("1", 2), (None, 2), ((1, 2), 3), [[1, 2]], (1, (2,)), object(), int, [1, None],
]

# No one of these is a point.
NO_POINTS = [
    True, None, 0, 7, (1,), [], (1, 2, 3), [0, 0, 0], "00", b"00", {0: 0, 1: 0}, 0.0, (1, True), (False, 0), (0, None),
    ((1, 2), 0.5), (0, "1"), ((4, 2), 0), (0, (3, 1)), ((1, 2, 3), 1), ([], []), ((0, 0), 0, 0),
]

# No one of these is a turn; some are points.
NO_TURNS = NO_POINTS + [
    (0, 0), (1, 1), (2, 0), (0, -2), ((1, 2), (1, 2)), ((3, 5), (3, 5)), ((3, 5), (4, 7)), ((1, 2), (3, 5)),
    (1, (1, 2)),
]

# No one of these is a place; some have a point, an aside and a root, but not in one of both forms.
NO_PLACES = [
    True, None, 0, "place", (), [], (1, 2), ((1, 2), (1, 2)), ((0, 0), (0, 0)), ((0, 0), (0, 0), 0, 0), {}, 0.5,
    ((0, 0), (0, 0), 2), ((0, 0), (0, 0), (1, 2)), ((0, 0), (1, 0), 0), ((0, 0), (2, -4), 3), ((0, 0), (0, 2), 3),
    ((0, 0), (-3, 0), 2), ((0, 0), (1, 0), 4), ((0, 0), (1, 1), (9, 4)), ((0, 0), (1, 0), 1), ((0, 0), (1, 0), -2),
    ((0, 0), (1, 0), (-1, 2)), ((0, 0), ((1, 2), 1), 2), ((0, 0), (1, (1, 2)), 2), ((0, 0), (1,), 2),
    ((0, 0), (1, 0, 0), 2), ((0, 0), (True, 0), 2), ((0, 0), (1, False), 2), ((0, 0), (1.0, 0), 2),
    ((0, 0), None, 2), ((0, 0), 1, 2), ((0, 0), "10", 2), ((0, 0), (0, 0), False), ((0, 0), (1, 0), True),
    ((0, 0), (1, 0), (4, 2)), ((0, 0), (1, 0), (2, 1)), ((0, 0), (1, 0), None), ((0, 0), (1, 0), "2"),
    ((0, 0), (0, 0), None), ((0, 0), (0, 0), 0.0), (0, (0, 0), 0), (((4, 2), 0), (0, 0), 0), ((0, True), (0, 0), 0),
    ((0, 0, 0), (0, 0), 0), (None, (0, 0), 0), ((0,), (1, 0), 2),
]

# Neither of these is 1 or -1.
NO_SIDES = [0, 2, -2, True, False, None, 1.0, -1.0, "1", (1, 2), (1, 1), [1], (1,), (), 10 ** 40, object()]

# No one of these is a number above 0.
NO_LENGTHS = NO_NUMBERS + [0, -1, (-1, 2), [-7, 3], -10 ** 40]

# No one of these is a word; some have three numbers, but two odd ones, or too great ones.
NO_WORDS = [
    None, True, 0, 7, "", "200", "2 0 0", b"200", (), [], (2,), (2, 0), (2, 0, 0, 0), {}, {0: 2, 1: 0, 2: 0}, 0.5,
    object(),
    (1, 1, 0), (1, 0, 1), (0, 1, 1), (1, 1, 1), (-1, 3, 0), (5, 2, -7), (-1, -1, 0), (25, 0, 0), (0, -25, 0),
    (0, 0, 25),
    (26, 0, 0), (0, 26, 0), (0, 0, -26), (10 ** 40, 0, 0), (True, 0, 0), (0, False, 0), (0, 0, True), (2.0, 0, 0),
    (0, None, 0), (0, 0, "2"), ((2, 0, 0),), ((1, 2), 0, 0), ([2], 0, 0), (0, (4, 2), 0),
]

NO_POLYS = [None, True, 0, 1, (1, 2), "x", "0", (), [], [(0, 0, 1)], ((1, 0, 1),), {}, 0.5, object(), Poly]

NO_MACHINES = [None, True, 0, (), [], "machine 1 0", (1, (), (), (), 0), {}, object(), Machine]


def number(fraction):
    """The number in its one form, of a fraction."""
    fraction = Fraction(fraction)
    if fraction.denominator == 1:
        return fraction.numerator
    return fraction.numerator, fraction.denominator


def fraction(value):
    """The fraction of a number."""
    return Fraction(value) if isinstance(value, int) else Fraction(value[0], value[1])


def fractions(values):
    """The fractions of a list of numbers, a point or a turn."""
    return [fraction(value) for value in values]


def some_turns():
    """Turns of all quarters, as they are told."""
    return [
        (1, 0), (0, 1), (-1, 0), (0, -1), ((3, 5), (4, 5)), ((-3, 5), (4, 5)), ((-4, 5), (-3, 5)), ((5, 13), (-12, 13)),
        ((-20, 29), (21, 29)), ((119, 169), (120, 169)),
    ]


def turn_times(turn, many):
    """A turn many times, as a pair of fractions."""
    c, s = fractions(turn)
    if many < 0:
        s, many = -s, -many
    x, y = Fraction(1), Fraction(0)
    for _ in range(many):
        x, y = c * x - s * y, s * x + c * y
    return x, y


def spot(place):
    """Where a place stands, as two decimals of many digits."""
    (x, y), (i, j), root = place
    step = decimal(root).sqrt()
    return decimal(x) + i * step, decimal(y) + j * step


def decimal(value):
    """The decimal of many digits of a number."""
    above, below = (value, 1) if isinstance(value, int) else value
    return Decimal(above) / Decimal(below)


def square_between(one, other):
    """The square of the distance of two places, as a decimal of many digits."""
    (x, y), (u, v) = spot(one), spot(other)
    return (x - u) ** 2 + (y - v) ** 2


def tent():
    """Two pins, two bars that meet above them, and a bead on one of these."""
    return Machine(4, [(1, (4, 0)), (0, [0, 0])], [(2, 0, 3), (1, 2, 3)], [(3, 2, 0, (1, 3))], 3)


def some_machine(seed, many):
    """What makes a machine with many parts, in no order."""
    random = Random(seed)
    pins = [(joint, (number(Fraction(random.randint(-9, 9), 4)), joint))
        for joint in range(many) if random.randrange(2)]
    bars, beads = {}, {}
    for _ in range(3 * many):
        one, other, joint = random.sample(range(many), 3)
        bars[frozenset((one, other))] = (one, other, number(Fraction(random.randint(1, 9), random.randint(1, 4))))
        beads[joint, frozenset((one, other))] = (joint, one, other, number(Fraction(random.randint(-9, 9), 4)))
    return many, pins, list(bars.values()), list(beads.values()), random.randrange(many)


def square(one, other):
    """The square of the distance of two points, as a fraction."""
    (x, y), (u, v) = fractions(one), fractions(other)
    return (x - u) ** 2 + (y - v) ** 2


def gone(point, turn, length):
    """A point gone on by a length in the direction of a turn."""
    (x, y), (c, s), far = fractions(point), fractions(turn), fraction(length)
    return number(x + far * c), number(y + far * s)


def some_frames():
    """The lengths and three corners of frames, turned in many ways, some flat, some nearly so."""
    nearly = ((10 ** 12 - 1, 10 ** 12 + 1), (2 * 10 ** 6, 10 ** 12 + 1))
    lengths = [(1, 2), (2, 4), ((1, 2), (2, 3)), ([9, 2], (15, 2)), (1, (10 ** 20 + 1, 10 ** 20)), (3, 100)]
    for (s, t), o in product(lengths, [(0, 0), ((1, 2), -3)]):
        for to_a, to_b in product(some_turns() + [nearly], [(1, 0), (0, -1), ((-3, 5), (4, 5))]):
            yield s, t, o, gone(o, to_a, s), gone(o, to_b, t)


def some_poly(seed, degree, many):
    """A polynomial of a degree with so many terms, or as many as there can be."""
    random = Random(seed)
    places = [(i, j) for i in range(degree + 1) for j in range(degree + 1 - i)]
    chosen = [random.choice([place for place in places if sum(place) == degree])]
    chosen += random.sample([place for place in places if place != chosen[0]], min(many, len(places)) - 1)
    return Poly([
        (i, j, number(Fraction(random.choice([-7, -3, -2, -1, 1, 2, 5]), random.randint(1, 4)))) for i, j in chosen])


def value_of(poly, point):
    """The value of a polynomial at a point, by Python's fractions."""
    x, y = fractions(point)
    return sum((fraction(factor) * x ** i * y ** j for i, j, factor in poly.terms), Fraction(0))


def pen_of(radius, a, b):
    """Where the pen stands, by Python's fractions."""
    (x, y), (u, v) = turn_times(a, 2), turn_times(b, 2)
    return number(fraction(radius) * (x + u)), number(fraction(radius) * (y + v))


def through(poly, radius, a, b):
    """The polynomial with another constant, whose curve goes through the pen at a and b."""
    off = value_of(poly, pen_of(radius, a, b))
    return poly_sum(poly, Poly([(0, 0, number(-off))] if off else []))


def times(point, many):
    """A point times a number."""
    return tuple(number(fraction(many) * part) for part in fractions(point))


def total(*points):
    """Points, added."""
    return tuple(number(sum(parts)) for parts in zip(*[fractions(point) for point in points]))


def listed(value):
    """A value with lists in the place of tuples, all the way in."""
    return [listed(item) for item in value] if isinstance(value, (list, tuple)) else value


def mixed(value, depth=0):
    """A value with lists and tuples in turns, all the way in."""
    if not isinstance(value, (list, tuple)):
        return value
    return (list if depth % 2 else tuple)(mixed(item, depth + 1 + at) for at, item in enumerate(value))


def shown(value):
    """What a value tells: its class and its attributes where it is an object of the package."""
    if isinstance(value, Poly):
        return "Poly", value.terms, value.degree
    if isinstance(value, Waves):
        return "Waves", value.constant, value.rows, value.size
    if isinstance(value, Machine):
        return "Machine", value.many, value.pins, value.bars, value.beads, value.pen
    if isinstance(value, Paper):
        return type(value).__name__, value.word, value.parts, bool(value)
    return value


class Case(unittest.TestCase):
    """A test case that compares errors with their fields, and values with their kinds."""

    def refuses(self, error, call, *values, **named):
        """The call raises an error of this very class, with these very fields."""
        try:
            got = call(*values, **named)
        except ValueError as raised:
            self.assertIs(type(raised), type(error), f"{raised!r} in the place of {error!r}: {values!r} {named!r}")
            self.assertEqual(vars(raised), vars(error), f"{values!r} {named!r}")
            return
        self.fail(f"{got!r} in the place of {error!r}: {values!r} {named!r}")

    def same(self, got, wanted):
        """Both are equal, and of the same kinds throughout."""
        self.assertEqual(repr(got), repr(wanted))

    def near(self, got, wanted):
        """Two decimals are equal, but for their last digits."""
        self.assertLess(abs(got - wanted), Decimal(10) ** -80, f"{got} in the place of {wanted}")
