"""Boxes around the roots of a row that are no numbers."""

from typedcurve.ratios import HALF, difference_of, is_less, product_of, sum_of
from typedcurve.whole_rows import changes_at, sign_at, sturm_chain


def boxes_around(row, near, others):
    """For each root a box that is at most near wide, ascending, and that has none of others.

    The row of integers has each of its roots just once, and none of them is a number.
    """
    return [_narrowed(row, low, high, near, others) for low, high in _parted(row)]


def _parted(row):
    """For each root a box in which no other one of the row stands, ascending."""
    chain = sturm_chain(row)
    bound = _bound(row)
    waiting = [(-bound, bound, changes_at(chain, -bound), changes_at(chain, bound))]
    found = []
    while waiting:
        low, high, before, behind = waiting.pop()
        if before - behind == 1:
            found.append((low, high))
        elif before - behind > 1:
            middle = _middle(low, high)
            between = changes_at(chain, middle)
            # The lower half is taken out first, so the boxes are found ascending.
            waiting.append((middle, high, between, behind))
            waiting.append((low, middle, before, between))
    return found


def _bound(row):
    """A power of 2 above all roots of the row, without their signs."""
    most = 2 + max([abs(number) for number in row]) // abs(row[-1])
    return 1 << most.bit_length()


def _narrowed(row, low, high, near, others):
    sign_low = sign_at(row, low)
    while is_less(near, difference_of(high, low)) or _has_any(low, high, others):
        middle = _middle(low, high)
        if sign_at(row, middle) == sign_low:
            low = middle
        else:
            high = middle
    return low, high


def _has_any(low, high, others):
    return any([not is_less(other, low) and not is_less(high, other) for other in others])


def _middle(low, high):
    return product_of(HALF, sum_of(low, high))
