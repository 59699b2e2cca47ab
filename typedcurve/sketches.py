"""Sketches: the signs of a polynomial at points of the disc that the pen can reach."""

from math import lcm

from typedcurve.demands import need_above_nothing, need_within
from typedcurve.polys import MOST_DEGREE, need_poly
from typedcurve.ratios import parts_of, power_of, product_of, quotient_of
from typedcurve.whole_rows import sign_at

MOST_MANY = 40
SIGNS = "-0+"


def sketch(poly, radius, many):
    """The rows of signs, the uppermost one first."""
    need_poly(poly, "poly")
    need_above_nothing(radius, "radius")
    need_within(many, 1, MOST_MANY, "many")
    terms = _whole_terms(poly, quotient_of(product_of(2, radius), many))
    return tuple([_signs_of_row(terms, up, many) for up in range(many, -many - 1, -1)])


def _whole_terms(poly, step):
    """Terms with integers and, in numbers of steps, with the same signs everywhere as the polynomial."""
    terms = [(i, j, parts_of(product_of(number, power_of(step, i + j)))) for i, j, number in poly.terms]
    shared = 1
    for _, _, (_, below) in terms:
        shared = lcm(shared, below)
    return [(i, j, above * (shared // below)) for i, j, (above, below) in terms]


def _signs_of_row(terms, up, many):
    """The signs of all points that are so many steps up."""
    row = [0] * (MOST_DEGREE + 1)
    for i, j, number in terms:
        row[i] += number * power_of(up, j)
    signs = []
    for right in range(-many, many + 1):
        is_out = right * right + up * up > many * many
        signs.append(" " if is_out else SIGNS[1 + sign_at(row, right)])
    return "".join(signs)
