"""Polynomials of x and y."""

from typedcurve.checks import is_list, is_number, is_within
from typedcurve.demands import need_number, need_point, need_turn
from typedcurve.errors import BadNumber, BadPoly, TooMany
from typedcurve.papers import fixed
from typedcurve.ratios import negative_of, power_of, product_of, quotient_of, sign_in, sum_of

MOST_DEGREE = 6


class Poly:
    """A polynomial, told by triples (i, j, number); it never changes."""

    def __init__(self, terms):
        if not _are_terms(terms):
            raise BadPoly("terms")
        self.terms = tuple(sorted(fixed(terms), key=lambda term: (term[0], term[1])))
        self.degree = max([i + j for i, j, _ in self.terms], default=0)

    def __eq__(self, other):
        return isinstance(other, Poly) and self.terms == other.terms


def need_poly(poly, part):
    """Raises BadPoly for what is no Poly."""
    if not isinstance(poly, Poly):
        raise BadPoly(part)


def constant_poly(number):
    """The Poly that is this number everywhere."""
    return _poly_of_table({(0, 0): number})


def poly_sum(one, other):
    """One and other, added."""
    need_poly(one, "one")
    need_poly(other, "other")
    table = {}
    for i, j, number in one.terms + other.terms:
        _put(table, i, j, number)
    return _poly_of_table(table)


def poly_product(one, other):
    """One times other."""
    need_poly(one, "one")
    need_poly(other, "other")
    # Without terms the degree is 0, so nothing times anything is let.
    if one.degree + other.degree > MOST_DEGREE:
        raise TooMany("degree", MOST_DEGREE)
    table = {}
    for i, j, number in one.terms:
        for k, m, factor in other.terms:
            _put(table, i + k, j + m, product_of(number, factor))
    return _poly_of_table(table)


def poly_times(poly, number):
    """A polynomial times a number."""
    need_poly(poly, "poly")
    need_number(number, "number")
    return _poly_of_table({(i, j): product_of(number, factor) for i, j, factor in poly.terms})


def value(poly, point):
    """The value of a polynomial at a point."""
    need_poly(poly, "poly")
    need_point(point, "point")
    x, y = point
    total = 0
    for i, j, number in poly.terms:
        letters = product_of(power_of(x, i), power_of(y, j))
        total = sum_of(total, product_of(number, letters))
    return total


def slope(poly, unknown):
    """The slope of a polynomial by "x" or by "y"."""
    need_poly(poly, "poly")
    if not isinstance(unknown, str) or unknown not in ("x", "y"):
        raise BadPoly("unknown")
    # A term without the unknown becomes 0, and is left out.
    if unknown == "x":
        return _poly_of_table({(i - 1, j): product_of(i, number) for i, j, number in poly.terms})
    return _poly_of_table({(i, j - 1): product_of(j, number) for i, j, number in poly.terms})


def put_in(poly, one, other):
    """The polynomial with one in the place of x, and other in the place of y."""
    need_poly(poly, "poly")
    need_poly(one, "one")
    need_poly(other, "other")
    degrees = [i * one.degree + j * other.degree for i, j, _ in poly.terms]
    if max(degrees, default=0) > MOST_DEGREE:
        raise TooMany("degree", MOST_DEGREE)
    one_powers = _powers(one, max([term[0] for term in poly.terms], default=0))
    other_powers = _powers(other, max([term[1] for term in poly.terms], default=0))
    total = Poly(())
    for i, j, number in poly.terms:
        letters = poly_product(one_powers[i], other_powers[j])
        total = poly_sum(total, poly_times(letters, number))
    return total


def moved(poly, point):
    """The polynomial moved by a point."""
    need_poly(poly, "poly")
    need_point(point, "point")
    x, y = point
    return put_in(poly, _plane(1, 0, negative_of(x)), _plane(0, 1, negative_of(y)))


def turned_poly(poly, turn):
    """The polynomial turned by a turn."""
    need_poly(poly, "poly")
    need_turn(turn, "turn")
    cosine, sine = turn
    # Its value at a point is that of the polynomial at the point turned back.
    return put_in(poly, _plane(cosine, sine, 0), _plane(negative_of(sine), cosine, 0))


def stretched(poly, number):
    """The polynomial stretched by a number that is not 0."""
    need_poly(poly, "poly")
    need_number(number, "number")
    if sign_in(number) == 0:
        raise BadNumber("number")
    part = quotient_of(1, number)
    return put_in(poly, _plane(part, 0, 0), _plane(0, part, 0))


def _are_terms(terms):
    if not is_list(terms) or not all([_is_term(term) for term in terms]):
        return False
    return len({(term[0], term[1]) for term in terms}) == len(terms)


def _is_term(term):
    if not is_list(term) or len(term) != 3:
        return False
    i, j, number = term
    if not is_within(i, 0, MOST_DEGREE) or not is_within(j, 0, MOST_DEGREE - i):
        return False
    return is_number(number) and sign_in(number) != 0


def _put(table, i, j, number):
    table[(i, j)] = sum_of(table.get((i, j), 0), number)


def _poly_of_table(table):
    return Poly([(i, j, number) for (i, j), number in table.items() if number != 0])


def _plane(x, y, constant):
    """The polynomial of degree 1 at most with these numbers times x, times y and alone."""
    return _poly_of_table({(1, 0): x, (0, 1): y, (0, 0): constant})


def _powers(poly, most):
    powers = [constant_poly(1)]
    for _ in range(most):
        powers.append(poly_product(powers[-1], poly))
    return powers
