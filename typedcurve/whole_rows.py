"""Rows of integers: lists, the lowest power first, the last integer not 0; none for nothing."""

from math import gcd, lcm

from typedcurve.ratios import parts_of


def whole_row(row):
    """The row of integers, as small as can be, that is a row of numbers times one above 0."""
    shared = 1
    for number in row:
        shared = lcm(shared, parts_of(number)[1])
    integers = []
    for number in row:
        above, below = parts_of(number)
        integers.append(above * (shared // below))
    return _reduced(_trimmed(integers))


def whole_slope(row):
    """The slope of a row of integers."""
    return [power * number for power, number in enumerate(row)][1:]


def scaled_value(row, above, below):
    """The value at above over below, times below as often as the greatest power says."""
    total, scale = 0, 1
    for number in reversed(row):
        total = total * above + number * scale
        scale = scale * below
    return total


def sign_at(row, number):
    """1, 0 or -1, as the value of a row of integers at a number is above 0, 0, or below."""
    above, below = parts_of(number)
    scaled = scaled_value(row, above, below)
    return (scaled > 0) - (scaled < 0)


def exact_quotient(row, other):
    """A row of integers divided by one that divides it; no integer above 1 divides all of other."""
    left = list(row)
    found = []
    while len(left) >= len(other):
        factor = left[-1] // other[-1]
        start = len(left) - len(other)
        for at, number in enumerate(other):
            left[start + at] -= factor * number
        left.pop()
        found.append(factor)
    return found[::-1]


def sturm_chain(row):
    """The row, its slope, and the negatives of what is left, each times a number above 0."""
    chain = [row]
    following = _reduced(whole_slope(row))
    while following:
        chain.append(following)
        following = _negative_rest(chain[-2], chain[-1])
    return chain


def simple_row(row):
    """The row that has the roots of this one, each just once."""
    shared = sturm_chain(row)[-1]
    return exact_quotient(row, shared)


def changes_at(chain, number):
    """How often a sign follows the other one in a chain at a number."""
    return _changes([sign_at(row, number) for row in chain])


def changes_far(chain, side):
    """The same beyond all roots: far above them if side is 1, far below if it is -1."""
    ends = []
    for row in chain:
        is_turned = side == -1 and len(row) & 1 == 0
        ends.append(-row[-1] if is_turned else row[-1])
    return _changes(ends)


def _changes(signs):
    kept = [sign for sign in signs if sign != 0]
    return len([at for at in range(1, len(kept)) if (kept[at] > 0) != (kept[at - 1] > 0)])


def _trimmed(row):
    many = len(row)
    while many > 0 and row[many - 1] == 0:
        many -= 1
    return row[:many]


def _reduced(row):
    shared = 0
    for number in row:
        shared = gcd(shared, number)
    return [number // shared for number in row]


def _negative_rest(row, other):
    # Only factors above 0 may be multiplied in: the signs of the rest matter.
    rest = row
    while len(rest) >= len(other):
        shared = gcd(rest[-1], other[-1])
        scale, factor = abs(other[-1]) // shared, rest[-1] // shared
        if other[-1] < 0:
            factor = -factor
        start = len(rest) - len(other)
        rest = [scale * number for number in rest]
        for at, number in enumerate(other):
            rest[start + at] -= factor * number
        rest = _trimmed(rest)
    return _reduced([-number for number in rest])
