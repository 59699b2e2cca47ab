"""The roots of a row that are numbers, found by remainders and lifted until they are sure."""

from typedcurve.ratios import number_of
from typedcurve.whole_rows import scaled_value, sign_at, whole_slope


def number_roots(row):
    """All roots of a row of integers that are numbers; it has each of its roots just once."""
    # A root times the last integer is an integer, and no greater than this.
    bound = abs(row[-1]) + max([abs(number) for number in row])
    prime, starts = _good_prime(row)
    found = []
    for start in starts:
        root = number_of(_lifted(row, start, prime, bound), row[-1])
        if sign_at(row, root) == 0:
            found.append(root)
    return found


def _good_prime(row):
    """A prime that does not divide the last integer, and for which no root is met twice."""
    prime = 2
    while True:
        if row[-1] % prime != 0:
            starts = _roots_by(row, prime)
            slope = whole_slope(row)
            if all([scaled_value(slope, start, 1) % prime != 0 for start in starts]):
                return prime, starts
        prime = _next_prime(prime)


def _roots_by(row, prime):
    small = [number % prime for number in row]
    return [start for start in range(prime) if scaled_value(small, start, 1) % prime == 0]


def _next_prime(prime):
    prime += 1
    while any([prime % number == 0 for number in range(2, prime)]):
        prime += 1
    return prime


def _lifted(row, start, prime, bound):
    """The last integer times the root that has this remainder, if a number is such a root."""
    # As the root is met just once, each power of the prime goes on to the next in one way.
    slope = scaled_value(whole_slope(row), start, 1) % prime
    back = [number for number in range(prime) if number * slope % prime == 1][0]
    root, modulus = start, prime
    while modulus <= 2 * bound:
        modulus = modulus * prime
        root = (root - back * _value_by(row, root, modulus)) % modulus
    scaled = row[-1] * root % modulus
    return scaled - modulus if 2 * scaled > modulus else scaled


def _value_by(row, root, modulus):
    total = 0
    for number in reversed(row):
        total = (total * root + number) % modulus
    return total
