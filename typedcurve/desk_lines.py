"""The lines that a desk is told: what each one asks for, and with which values."""

from typedcurve.checks import is_within
from typedcurve.errors import BadText
from typedcurve.poly_texts import typed
from typedcurve.ratios import sign_in
from typedcurve.sketches import MOST_MANY
from typedcurve.texts import first_items, integer_in, need_one_line, number_in

# What stands behind the first word of a line; behind "curve" stands what is typed, up to the line's end.
WANTED = {
    "radius": ("length",), "stand": ("number", "number"), "count": (), "cut": (), "pen": (), "off": (), "way": (),
    "arm": ("number",), "sketch": ("many",)}


def line_told(line):
    """The first word of a line, and the values behind it."""
    items = first_items(line)
    word = items[0]
    if word == "curve":
        return word, (_curve_told(line, items),)
    if word not in WANTED:
        raise BadText(0, 0)
    wanted = WANTED[word]
    values = []
    for at, kind in enumerate(wanted, start=1):
        told = _value_in(items[at], kind) if at < len(items) else None
        if told is None:
            raise BadText(0, at)
        values.append(told)
    if len(items) > 1 + len(wanted):
        raise BadText(0, 1 + len(wanted))
    need_one_line(line)
    return word, tuple(values)


def _curve_told(line, items):
    if len(items) == 1:
        raise BadText(0, 1)
    try:
        return typed(line[len("curve "):])
    except BadText as wrong:
        # Within the first line the items are counted from its first word on.
        ahead = 1 if wrong.line == 0 else 0
        raise BadText(wrong.line, wrong.item + ahead)


def _value_in(item, kind):
    """The value of a kind that is written as this item, None if none is."""
    if kind == "many":
        many = integer_in(item)
        return many if is_within(many, 1, MOST_MANY) else None
    number = number_in(item)
    if kind == "length" and number is not None and sign_in(number) != 1:
        return None
    return number
