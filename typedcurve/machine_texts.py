"""Texts of machines, and what they tell."""

from typedcurve.checks import is_within
from typedcurve.errors import BadText
from typedcurve.ratios import sign_in
from typedcurve.texts import first_items, integer_in, item_of, number_in

# How many joints a line of each kind names, and how many numbers stand behind them.
SHAPES = {"pin": (1, 2), "bar": (2, 1), "bead": (3, 1)}
KINDS = ("pin", "bar", "bead")


def machine_lines(many, pen, pins, bars, beads):
    """The lines of the text of a machine."""
    lines = [f"machine {many} {pen}"]
    for joint, (x, y) in pins:
        lines.append(f"pin {joint} {item_of(x)} {item_of(y)}")
    for one, other, length in bars:
        lines.append(f"bar {one} {other} {item_of(length)}")
    for joint, one, other, share in beads:
        lines.append(f"bead {joint} {one} {other} {item_of(share)}")
    return lines


def parts_told(text, most):
    """The number of joints, at most so many, the pen, and the pins, bars and beads of a text."""
    many, pen = _head_told(first_items(text), most)
    rows = {"pin": [], "bar": [], "bead": []}
    lines = text.split("\n")
    ahead = "pin"
    for line in range(1, len(lines)):
        items = lines[line].split(" ")
        kind = items[0]
        if kind not in KINDS or KINDS.index(kind) < KINDS.index(ahead):
            raise BadText(line, 0)
        last = rows[kind][-1] if rows[kind] else None
        rows[kind].append(_row_told(line, items, many, last))
        ahead = kind
    pins = [(joint, (x, y)) for joint, x, y in rows["pin"]]
    return many, pen, pins, rows["bar"], rows["bead"]


def _head_told(items, most):
    if items[0] != "machine":
        raise BadText(0, 0)
    many = integer_in(items[1]) if len(items) > 1 else None
    if not is_within(many, 1, most):
        raise BadText(0, 1)
    pen = integer_in(items[2]) if len(items) > 2 else None
    if not is_within(pen, 0, many - 1):
        raise BadText(0, 2)
    if len(items) > 3:
        raise BadText(0, 3)
    return many, pen


def _row_told(line, items, many, last):
    """The joints and the numbers that a line tells, behind the last row of its kind, if there is one."""
    named, numbers = SHAPES[items[0]]
    row = []
    for at in range(1, 1 + named + numbers):
        item = items[at] if at < len(items) else ""
        told = integer_in(item) if at <= named else number_in(item)
        row.append(told)
        if told is None or (at <= named and not _are_let(row, named, many, last)):
            raise BadText(line, at)
        if items[0] == "bar" and at > named and sign_in(told) != 1:
            raise BadText(line, at)
    if len(items) > 1 + len(row):
        raise BadText(line, 1 + len(row))
    return tuple(row)


def _are_let(joints, named, many, last):
    """Whether the last one of the joints that stand in a line can stand there."""
    joint, before = joints[-1], joints[:-1]
    if not is_within(joint, 0, many - 1) or joint in before:
        return False
    if len(joints) < named:
        return last is None or tuple(joints) >= last[:len(joints)]
    if before and joint < before[-1]:
        return False
    return last is None or tuple(joints) > last[:named]
