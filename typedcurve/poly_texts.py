"""Texts of polynomials, and polynomials that are typed."""

from typedcurve.errors import BadText, TooMany
from typedcurve.polys import MOST_DEGREE, Poly, constant_poly, need_poly, poly_product, poly_sum, poly_times
from typedcurve.ratios import sign_in
from typedcurve.texts import MOST_DIGITS, first_items, has_many_digits, item_of, need_one_line, number_in

MOST_BRACKETS = 40
EXPONENTS = ("0", "1", "2", "3", "4", "5", "6")


def poly_text(poly):
    """The text of a polynomial."""
    need_poly(poly, "poly")
    terms = [[item_of(number)] + ["x"] * i + ["y"] * j for i, j, number in reversed(poly.terms)]
    return " + ".join([" ".join(items) for items in terms]) if terms else "0"


def read_poly(text):
    """The Poly whose text this is."""
    items = first_items(text)
    if items[0] == "0":
        if len(items) > 1:
            raise BadText(0, 1)
        terms = []
    else:
        terms = _terms_in(items)
    need_one_line(text)
    return Poly(terms)


def typed(text):
    """The Poly that is typed."""
    items = first_items(text)
    _need_sum(items)
    need_one_line(text)
    return _sum_at(items, 0)[0]


def _terms_in(items):
    terms = []
    at = 0
    while True:
        term, behind = _term_at(items, at)
        if terms and term[:2] >= terms[-1][:2]:
            raise BadText(0, behind - 1)
        terms.append(term)
        if behind == len(items):
            return terms
        if items[behind] != "+":
            raise BadText(0, behind)
        at = behind + 1


def _term_at(items, at):
    """The term that begins at an item, and where the items behind it begin."""
    number = number_in(items[at]) if at < len(items) else None
    if number is None or sign_in(number) == 0:
        raise BadText(0, at)
    behind_x = _behind_letters(items, at + 1, "x", MOST_DEGREE)
    i = behind_x - at - 1
    behind_y = _behind_letters(items, behind_x, "y", MOST_DEGREE - i)
    return (i, behind_y - behind_x, number), behind_y


def _behind_letters(items, at, letter, most):
    behind = at
    while behind < len(items) and behind - at < most and items[behind] == letter:
        behind += 1
    return behind


def _need_sum(items):
    """Refuses the first item that cannot stand in a SUM, or the one that is missing."""
    wanted, depth = "atom", 0
    for at, item in enumerate(items):
        if not _can_stand(wanted, depth, item):
            raise BadText(0, at)
        if item == "(":
            depth += 1
        elif item == ")":
            depth -= 1
        wanted = _wanted_behind(wanted, item)
    if depth > 0 or wanted in ("atom", "exponent"):
        raise BadText(0, len(items))


def _can_stand(wanted, depth, item):
    if wanted == "atom":
        if item == "(":
            return depth < MOST_BRACKETS
        return item in ("x", "y") or number_in(item) is not None
    if wanted == "exponent":
        return item in EXPONENTS
    if item == ")":
        return depth > 0
    return item in ("+", "-", "*") or (item == "^" and wanted == "power or sign")


def _wanted_behind(wanted, item):
    """What may stand behind an item that was wanted: only an ATOM may have an exponent."""
    if item in ("(", "+", "-", "*"):
        return "atom"
    if item == "^":
        return "exponent"
    return "sign" if wanted == "exponent" else "power or sign"


def _sum_at(items, at):
    """The SUM that begins at an item, and where the items behind it begin."""
    total, at = _product_at(items, at)
    while at < len(items) and items[at] in ("+", "-"):
        sign = 1 if items[at] == "+" else -1
        part, at = _product_at(items, at + 1)
        total = _written(poly_sum(total, poly_times(part, sign)))
    return total, at


def _product_at(items, at):
    total, at = _power_at(items, at)
    while at < len(items) and items[at] == "*":
        part, at = _power_at(items, at + 1)
        total = _written(poly_product(total, part))
    return total, at


def _power_at(items, at):
    atom, at = _atom_at(items, at)
    if at == len(items) or items[at] != "^":
        return atom, at
    power = constant_poly(1)
    for _ in range(int(items[at + 1])):
        power = _written(poly_product(power, atom))
    return power, at + 2


def _atom_at(items, at):
    if items[at] == "(":
        inner, behind = _sum_at(items, at + 1)
        return inner, behind + 1
    if items[at] == "x":
        return Poly([(1, 0, 1)]), at + 1
    if items[at] == "y":
        return Poly([(0, 1, 1)]), at + 1
    return constant_poly(number_in(items[at])), at + 1


def _written(poly):
    """The polynomial, if each of its numbers can be written."""
    if any([has_many_digits(number) for _, _, number in poly.terms]):
        raise TooMany("digits", MOST_DIGITS)
    return poly
