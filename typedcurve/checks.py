"""Whether values are what they should be; any value may be passed, none raises an error."""

from math import gcd


def is_list(value):
    """Whether a value is a list or a tuple, which may be passed for one another."""
    return isinstance(value, (list, tuple))


def is_integer(value):
    """Whether a value is an integer; True and False are none."""
    return isinstance(value, int) and not isinstance(value, bool)


def is_within(value, least, most):
    """Whether a value is an integer from least to most; None is no bound."""
    if not is_integer(value):
        return False
    return (least is None or value >= least) and (most is None or value <= most)


def is_number(value):
    """Whether a value is an integer, or the one form of a fraction that is no integer."""
    if is_integer(value):
        return True
    if not is_list(value) or len(value) != 2:
        return False
    above, below = value
    return is_integer(above) and is_within(below, 2, None) and gcd(above, below) == 1


def is_point(value):
    """Whether a value is a pair of two numbers."""
    return is_list(value) and len(value) == 2 and is_number(value[0]) and is_number(value[1])


def is_turn(value):
    """Whether a value is a point one away from (0, 0)."""
    if not is_point(value):
        return False
    (c_above, c_below), (s_above, s_below) = [_parts(number) for number in value]
    squares = (c_above * s_below) ** 2 + (s_above * c_below) ** 2
    return squares == (c_below * s_below) ** 2


def _parts(number):
    return (number, 1) if is_integer(number) else number
