"""Arithmetic of values that are known to be numbers; what is passed is not checked here."""

from math import gcd

HALF = (1, 2)
QUARTER = (1, 4)


def parts_of(number):
    """What stands above and below the line of a number, below being 1 for an integer."""
    if isinstance(number, int):
        return number, 1
    above, below = number
    return above, below


def number_of(above, below):
    """The one form of the number above over below, which is not 0."""
    shared = gcd(above, below)
    if below < 0:
        shared = -shared
    if below == shared:
        return above // shared
    return above // shared, below // shared


def sum_of(one, other):
    """One and other, added."""
    one_above, one_below = parts_of(one)
    other_above, other_below = parts_of(other)
    return number_of(one_above * other_below + other_above * one_below, one_below * other_below)


def negative_of(number):
    """The number with the other sign."""
    above, below = parts_of(number)
    return number_of(-above, below)


def size_of(number):
    """The number without its sign."""
    above, below = parts_of(number)
    return number_of(abs(above), below)


def difference_of(one, other):
    """One less other."""
    return sum_of(one, negative_of(other))


def product_of(one, other):
    """One times other."""
    one_above, one_below = parts_of(one)
    other_above, other_below = parts_of(other)
    return number_of(one_above * other_above, one_below * other_below)


def quotient_of(one, other):
    """One divided by other, which is not 0."""
    other_above, other_below = parts_of(other)
    return product_of(one, number_of(other_below, other_above))


def power_of(number, many):
    """1, times the number so many times."""
    power = 1
    for _ in range(many):
        power = product_of(power, number)
    return power


def sign_in(number):
    """1, 0 or -1, as the number is above 0, 0, or below."""
    above, _ = parts_of(number)
    return (above > 0) - (above < 0)


def is_less(one, other):
    """Whether one is below other."""
    one_above, one_below = parts_of(one)
    other_above, other_below = parts_of(other)
    return one_above * other_below < other_above * one_below


def ascending(numbers):
    """A list of numbers, the least one first."""
    if len(numbers) < 2:
        return list(numbers)
    half = len(numbers) // 2
    low, high = ascending(numbers[:half]), ascending(numbers[half:])
    merged = []
    # Both are gone through from behind, where pop is quick.
    while low and high:
        merged.append(low.pop() if is_less(high[-1], low[-1]) else high.pop())
    return low + high + merged[::-1]
