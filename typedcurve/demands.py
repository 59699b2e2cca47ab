"""The errors for arguments that are not what they should be; part is the parameter's name."""

from typedcurve.checks import is_number, is_point, is_turn, is_within
from typedcurve.errors import BadNumber, BadPoint, BadTurn
from typedcurve.ratios import sign_in


def need_within(value, least, most, part):
    """Raises BadNumber for what is no integer from least to most; None is no bound."""
    if not is_within(value, least, most):
        raise BadNumber(part)


def need_side(value, part):
    """Raises BadNumber for what is neither 1 nor -1."""
    if not is_within(value, -1, 1) or value == 0:
        raise BadNumber(part)


def need_number(value, part):
    """Raises BadNumber for what is no number."""
    if not is_number(value):
        raise BadNumber(part)


def need_above_nothing(value, part):
    """Raises BadNumber for what is no number above 0."""
    if not is_number(value) or sign_in(value) != 1:
        raise BadNumber(part)


def need_from_nothing(value, part):
    """Raises BadNumber for what is no number from 0 on."""
    if not is_number(value) or sign_in(value) == -1:
        raise BadNumber(part)


def need_point(value, part):
    """Raises BadPoint for what is no point."""
    if not is_point(value):
        raise BadPoint(part)


def need_turn(value, part):
    """Raises BadTurn for what is no turn."""
    if not is_turn(value):
        raise BadTurn(part)
