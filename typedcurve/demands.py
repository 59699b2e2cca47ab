"""The errors for arguments that are not what they should be; part is the parameter's name."""

from typedcurve.checks import is_number, is_point, is_turn
from typedcurve.errors import BadNumber, BadPoint, BadTurn
from typedcurve.ratios import sign_in


def need_number(value, part):
    """Raises BadNumber for what is no number."""
    if not is_number(value):
        raise BadNumber(part)


def need_above_nothing(value, part):
    """Raises BadNumber for what is no number above 0."""
    if not is_number(value) or sign_in(value) != 1:
        raise BadNumber(part)


def need_point(value, part):
    """Raises BadPoint for what is no point."""
    if not is_point(value):
        raise BadPoint(part)


def need_turn(value, part):
    """Raises BadTurn for what is no turn."""
    if not is_turn(value):
        raise BadTurn(part)
