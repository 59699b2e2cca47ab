"""What all texts share: lines, items, and how integers and numbers are written."""

from typedcurve.checks import is_number
from typedcurve.errors import BadText
from typedcurve.ratios import parts_of

MOST_DIGITS = 60


def integer_in(item):
    """The integer that is written as this item, None if none is."""
    digits = item[1:] if item.startswith("-") else item
    if not digits.isascii() or not digits.isdigit() or len(digits) > MOST_DIGITS:
        return None
    if digits.startswith("0") and item != "0":
        return None
    return int(item)


def number_in(item):
    """The number that is written as this item, None if none is."""
    above, line, below = item.partition("/")
    if line == "":
        return integer_in(item)
    pair = (integer_in(above), integer_in(below))
    return pair if is_number(pair) else None


def item_of(number):
    """The item as which a number is written."""
    above, below = parts_of(number)
    return str(above) if below == 1 else f"{above}/{below}"


def has_many_digits(number):
    """Whether a number has too many digits, above or below the line, to be written."""
    above, below = parts_of(number)
    return max(abs(above), below) >= 10 ** 60


def first_items(text):
    """The items of the first line of a text."""
    if not isinstance(text, str):
        raise BadText(0, 0)
    return text.split("\n")[0].split(" ")


def need_one_line(text):
    """Refuses the first item behind a first line that is right and should be the only one."""
    if "\n" in text:
        raise BadText(1, 0)
