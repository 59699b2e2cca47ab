"""Waves: a number, and numbers times cosines and sines of angles that two turns make."""

from typedcurve.checks import is_list, is_number, is_within
from typedcurve.demands import need_above_nothing, need_number, need_turn
from typedcurve.errors import BadWaves, TooMany
from typedcurve.papers import fixed
from typedcurve.polys import Poly, constant_poly, need_poly, poly_sum, poly_times
from typedcurve.ratios import (
    HALF, difference_of, negative_of, power_of, product_of, quotient_of, sign_in, sum_of)
from typedcurve.spirals import spiral
from typedcurve.turns import added, doubled, multiplied

MOST_SIZE = 6


class Waves:
    """A sum of a constant and waves, told by rows (beat, C, S); it never changes."""

    def __init__(self, constant, rows):
        need_number(constant, "constant")
        if not _are_rows(rows):
            raise BadWaves("rows")
        self.constant = fixed(constant)
        self.rows = tuple(sorted(fixed(rows), key=lambda row: row[0]))
        self.size = max([_size_of(row[0]) for row in self.rows], default=0)

    def __eq__(self, other):
        if not isinstance(other, Waves):
            return False
        return self.constant == other.constant and self.rows == other.rows


def waves_sum(one, other):
    """One and other, added."""
    _need_waves(one, "one")
    _need_waves(other, "other")
    table = {}
    for beat, cosine, sine in _all_rows(one) + _all_rows(other):
        _put(table, beat, cosine, sine)
    return _waves_of_table(table)


def waves_product(one, other):
    """One times other."""
    _need_waves(one, "one")
    _need_waves(other, "other")
    if one.size + other.size > MOST_SIZE:
        raise TooMany("size", MOST_SIZE)
    table = {}
    for row in _all_rows(one):
        for other_row in _all_rows(other):
            _put_product(table, row, other_row)
    return _waves_of_table(table)


def waves_times(waves, number):
    """Waves times a number."""
    _need_waves(waves, "waves")
    need_number(number, "number")
    table = {}
    for beat, cosine, sine in _all_rows(waves):
        _put(table, beat, product_of(number, cosine), product_of(number, sine))
    return _waves_of_table(table)


def exchanged(waves):
    """The waves whose worth at a and b is that of waves at b and a."""
    _need_waves(waves, "waves")
    table = {}
    for (p, q), cosine, sine in _all_rows(waves):
        _put(table, (q, p), cosine, sine)
    return _waves_of_table(table)


def beat_turn(beat, a, b):
    """The turn of a beat at a and b."""
    if not _is_beat(beat):
        raise BadWaves("beat")
    need_turn(a, "a")
    need_turn(b, "b")
    p, q = beat
    return added(multiplied(doubled(a), p), multiplied(doubled(b), q))


def worth_at(waves, a, b):
    """The worth of waves at a and b."""
    _need_waves(waves, "waves")
    need_turn(a, "a")
    need_turn(b, "b")
    total = waves.constant
    for beat, cosine, sine in waves.rows:
        x, y = beat_turn(beat, a, b)
        total = sum_of(total, sum_of(product_of(cosine, x), product_of(sine, y)))
    return total


def slopes_at(waves, a, b):
    """How the worth of waves grows with the angle of a, and with that of b."""
    _need_waves(waves, "waves")
    need_turn(a, "a")
    need_turn(b, "b")
    by_a = by_b = 0
    for (p, q), cosine, sine in waves.rows:
        x, y = beat_turn((p, q), a, b)
        growth = difference_of(product_of(sine, x), product_of(cosine, y))
        by_a = sum_of(by_a, product_of(2 * p, growth))
        by_b = sum_of(by_b, product_of(2 * q, growth))
    return by_a, by_b


def waves_of(poly, radius):
    """The waves whose worth is the value of a polynomial at the pen of two arms."""
    need_poly(poly, "poly")
    need_above_nothing(radius, "radius")
    x_powers = _powers(Waves(0, [((0, 1), 1, 0), ((1, 0), 1, 0)]), poly.degree)
    y_powers = _powers(Waves(0, [((0, 1), 0, 1), ((1, 0), 0, 1)]), poly.degree)
    total = Waves(0, ())
    for i, j, number in poly.terms:
        factor = product_of(number, power_of(radius, i + j))
        total = waves_sum(total, waves_times(waves_product(x_powers[i], y_powers[j]), factor))
    return total


def poly_of(waves, radius):
    """The Poly of which these are the waves, None if there is none."""
    _need_waves(waves, "waves")
    need_above_nothing(radius, "radius")
    found, rest = Poly(()), waves
    while rest.size > 0:
        top = _top_poly(rest, radius)
        less = waves_sum(rest, waves_times(waves_of(top, radius), -1))
        if less.size >= rest.size:
            return None
        found, rest = poly_sum(found, top), less
    return poly_sum(found, constant_poly(rest.constant))


def cosines(waves):
    """The terms of waves: pairs of a word and a number, ascending by word."""
    _need_waves(waves, "waves")
    terms = []
    for (p, q), cosine, sine in waves.rows:
        terms.append(((2 * p, 2 * q, 0), sum_of(cosine, product_of((7, 24), sine))))
        terms.append(((2 * p, 2 * q, 2), product_of((-25, 24), sine)))
    return tuple([(word, number) for word, number in terms if number != 0])


def _need_waves(waves, part):
    if not isinstance(waves, Waves):
        raise BadWaves(part)


def _size_of(beat):
    p, q = beat
    return abs(p) + abs(q)


def _is_beat(beat):
    if not is_list(beat) or len(beat) != 2:
        return False
    p, q = beat
    if not is_within(p, 0, MOST_SIZE) or not is_within(q, p - MOST_SIZE, MOST_SIZE - p):
        return False
    return p > 0 or q > 0


def _is_row(row):
    if not is_list(row) or len(row) != 3 or not _is_beat(row[0]):
        return False
    if not is_number(row[1]) or not is_number(row[2]):
        return False
    return sign_in(row[1]) != 0 or sign_in(row[2]) != 0


def _are_rows(rows):
    if not is_list(rows) or not all([_is_row(row) for row in rows]):
        return False
    return len({(row[0][0], row[0][1]) for row in rows}) == len(rows)


def _all_rows(waves):
    """The rows, and the constant as one with the beat (0, 0)."""
    return (((0, 0), waves.constant, 0),) + waves.rows


def _put(table, beat, cosine, sine):
    """Adds a wave to a table; any two integers may be its beat."""
    p, q = beat
    if p < 0 or (p == 0 and q < 0):
        p, q, sine = -p, -q, negative_of(sine)
    old_cosine, old_sine = table.get((p, q), (0, 0))
    table[(p, q)] = (sum_of(old_cosine, cosine), sum_of(old_sine, sine))


def _put_product(table, row, other_row):
    (p, q), cosine, sine = row
    (other_p, other_q), other_cosine, other_sine = other_row
    both_cosines = product_of(HALF, product_of(cosine, other_cosine))
    both_sines = product_of(HALF, product_of(sine, other_sine))
    sine_first = product_of(HALF, product_of(sine, other_cosine))
    sine_last = product_of(HALF, product_of(cosine, other_sine))
    _put(table, (p + other_p, q + other_q),
         difference_of(both_cosines, both_sines), sum_of(sine_first, sine_last))
    _put(table, (p - other_p, q - other_q),
         sum_of(both_cosines, both_sines), difference_of(sine_first, sine_last))


def _waves_of_table(table):
    # The sine of no angle is 0, whatever it is multiplied by.
    constant = table.get((0, 0), (0, 0))[0]
    return Waves(constant, [(beat, cosine, sine) for beat, (cosine, sine) in table.items()
                            if beat != (0, 0) and (cosine != 0 or sine != 0)])


def _powers(waves, most):
    powers = [Waves(1, ())]
    for _ in range(most):
        powers.append(waves_product(powers[-1], waves))
    return powers


def _top_poly(waves, radius):
    """The terms of greatest degree, if these are the waves of a polynomial.

    The beat of k times a and j times b, unlike in direction, comes of (x + i y), j times, and
    (x - i y), k times. For k above j it tells what the beat with both exchanged tells again.
    """
    total = Poly(())
    for (k, q), cosine, sine in waves.rows:
        j = abs(q)
        if k + j == waves.size and k <= j and (q < 0 or k == 0):
            real, imaginary = spiral(j, k)
            real_factor = product_of(HALF, cosine) if k == j else cosine
            imaginary_factor = sine if k == 0 else negative_of(sine)
            part = poly_sum(poly_times(real, real_factor), poly_times(imaginary, imaginary_factor))
            total = poly_sum(total, part)
    return poly_times(total, quotient_of(1, power_of(radius, waves.size)))
