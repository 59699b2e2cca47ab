"""The polynomials that turn evenly about O: products of x + i y and x - i y, with i i = -1."""

from typedcurve.polys import Poly, constant_poly, poly_product, poly_sum, poly_times

X_TERMS = ((1, 0, 1),)
Y_TERMS = ((0, 1, 1),)


def spiral(left, right):
    """(x + i y), left times, and (x - i y), right times: what is real, and what i multiplies."""
    real, imaginary = constant_poly(1), constant_poly(0)
    for sign in [1] * left + [-1] * right:
        real, imaginary = _turned_on(real, imaginary, sign)
    return real, imaginary


def _turned_on(real, imaginary, sign):
    """What real and imaginary make, times x + i y or, with the sign -1, x - i y."""
    x, y = Poly(X_TERMS), poly_times(Poly(Y_TERMS), sign)
    return (poly_sum(poly_product(real, x), poly_times(poly_product(imaginary, y), -1)),
            poly_sum(poly_product(real, y), poly_product(imaginary, x)))
