"""Numbers: integers, and fractions in their one form."""

from math import isqrt

from typedcurve.demands import need_number
from typedcurve.errors import BadNumber, BadText, Misfit
from typedcurve.ratios import (
    difference_of, is_less, number_of, parts_of, product_of, quotient_of, sign_in, sum_of)
from typedcurve.texts import first_items, item_of, need_one_line, number_in


def plus(one, other):
    """One and other, added."""
    _need_both(one, other)
    return sum_of(one, other)


def minus(one, other):
    """One less other."""
    _need_both(one, other)
    return difference_of(one, other)


def times(one, other):
    """One times other."""
    _need_both(one, other)
    return product_of(one, other)


def quotient(one, other):
    """One divided by other."""
    _need_both(one, other)
    if sign_in(other) == 0:
        raise Misfit("other")
    return quotient_of(one, other)


def is_below(one, other):
    """Whether one is less than other."""
    _need_both(one, other)
    return is_less(one, other)


def sign_of(number):
    """1, 0 or -1, as the number is above 0, 0, or below."""
    need_number(number, "number")
    return sign_in(number)


def root_of(number):
    """The number from 0 on whose square the number is, None if it is no number's."""
    need_number(number, "number")
    above, below = parts_of(number)
    if above < 0:
        raise BadNumber("number")
    # Above and below share no divisor, so each must be a square by itself.
    root_above, root_below = isqrt(above), isqrt(below)
    if root_above * root_above != above or root_below * root_below != below:
        return None
    return number_of(root_above, root_below)


def number_text(number):
    """The text of a number."""
    need_number(number, "number")
    return item_of(number)


def read_number(text):
    """The number whose text this is."""
    items = first_items(text)
    number = number_in(items[0])
    if number is None:
        raise BadText(0, 0)
    if len(items) > 1:
        raise BadText(0, 1)
    need_one_line(text)
    return number


def _need_both(one, other):
    need_number(one, "one")
    need_number(other, "other")
