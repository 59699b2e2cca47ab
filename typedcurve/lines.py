"""Rows: polynomials in one unknown, their values, slopes, products and roots."""

from typedcurve.boxes import boxes_around
from typedcurve.checks import is_list, is_number
from typedcurve.demands import need_above_nothing, need_number
from typedcurve.errors import BadNumber, Misfit, TooMany
from typedcurve.exact_roots import number_roots
from typedcurve.ratios import is_less, parts_of, product_of, sum_of
from typedcurve.whole_rows import (
    changes_at, changes_far, exact_quotient, sign_at, simple_row, sturm_chain, whole_row)

MOST_NUMBERS = 25


def value_at(row, number):
    """The value of a row at a number."""
    _need_row(row, "row")
    need_number(number, "number")
    total = 0
    for factor in reversed(row):
        total = sum_of(product_of(total, number), factor)
    return total


def slope_row(row):
    """The row of the slope of a row."""
    _need_row(row, "row")
    if len(row) == 1:
        return (0,)
    return tuple([product_of(power, row[power]) for power in range(1, len(row))])


def row_product(one, other):
    """The row of the product of two rows."""
    _need_row(one, "one")
    _need_row(other, "other")
    many = len(one) + len(other) - 1
    if many > MOST_NUMBERS:
        raise TooMany("numbers", MOST_NUMBERS)
    found = [0] * many
    for low, left in enumerate(one):
        for high, right in enumerate(other):
            found[low + high] = sum_of(found[low + high], product_of(left, right))
    return tuple(found)


def count_roots(row, low, high):
    """How many roots stand above low and below high; None is no bound."""
    _need_row(row, "row")
    _need_bound(low, "low")
    _need_bound(high, "high")
    whole = _need_whole(row)
    if low is not None and high is not None and not is_less(low, high):
        return 0
    simple = simple_row(whole)
    chain = sturm_chain(simple)
    before = changes_far(chain, -1) if low is None else changes_at(chain, low)
    behind = changes_far(chain, 1) if high is None else changes_at(chain, high)
    # The chain does not count a root at low, but one at high.
    is_met = high is not None and sign_at(simple, high) == 0
    return before - behind - 1 if is_met else before - behind


def roots_of(row, near):
    """A box for each root, ascending; both numbers of it are the root if this is a number."""
    _need_row(row, "row")
    need_above_nothing(near, "near")
    simple = simple_row(_need_whole(row))
    exact = number_roots(simple)
    for root in exact:
        above, below = parts_of(root)
        simple = exact_quotient(simple, [-above, below])
    boxes = boxes_around(simple, near, exact)
    for root in exact:
        at = len([low for low, _ in boxes if is_less(low, root)])
        boxes.insert(at, (root, root))
    return tuple(boxes)


def _need_row(value, part):
    if not is_list(value) or not 1 <= len(value) <= MOST_NUMBERS:
        raise BadNumber(part)
    if not all([is_number(number) for number in value]):
        raise BadNumber(part)


def _need_bound(value, part):
    if value is not None:
        need_number(value, part)


def _need_whole(row):
    whole = whole_row(row)
    if not whole:
        raise Misfit("row")
    return whole
