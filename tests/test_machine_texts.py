"""[7]: texts of machines, there and back, and where a text is not right."""

import time
import unittest

from helpers import Case, some_machine, tent
from typedcurve.errors import BadText
from typedcurve.machines import Machine

# Where these texts are not right: the line, the first item that cannot stand there or is missing.
NO_TEXTS = [
    # the first line
    ("", 0, 0), (" ", 0, 0), ("\n", 0, 0), ("machin 3 0", 0, 0), ("Machine 3 0", 0, 0), (" machine 3 0", 0, 0),
    ("bar 0 1 2", 0, 0), ("\nmachine 3 0", 0, 0), ("machine", 0, 1), ("machine ", 0, 1), ("machine  3 0", 0, 1),
    ("machine x 0", 0, 1), ("machine 0 0", 0, 1), ("machine 4001 0", 0, 1), ("machine -1 0", 0, 1),
    ("machine 03 0", 0, 1), ("machine +3 0", 0, 1), ("machine 3/2 0", 0, 1), ("machine 3.0 0", 0, 1),
    ("machine " + "1" * 60 + " 0", 0, 1), ("machine 3", 0, 2), ("machine 3 ", 0, 2), ("machine 3 3", 0, 2),
    ("machine 3 -1", 0, 2), ("machine 3 00", 0, 2), ("machine 3 -0", 0, 2), ("machine 3 x", 0, 2),
    ("machine 3 1/2", 0, 2), ("machine 3  0", 0, 2), ("machine 1 1", 0, 2), ("machine 4000 4000", 0, 2),
    ("machine 3 0 0", 0, 3), ("machine 3 0 ", 0, 3), ("machine 3 0 pin 0 0 0", 0, 3), ("machine 3 0 x\nx", 0, 3),
    ("machine 3\npin", 0, 2),
    # first items
    ("machine 3 0\n", 1, 0), ("machine 3 0\n ", 1, 0), ("machine 3 0\nmachine 3 0", 1, 0),
    ("machine 3 0\nPin 0 0 0", 1, 0),
    ("machine 3 0\n pin 0 0 0", 1, 0), ("machine 3 0\nrod 0 1 2", 1, 0), ("machine 3 0\n0 1 2", 1, 0),
    ("machine 3 0\nbar 0 1 2\npin 0 0 0", 2, 0), ("machine 3 0\nbead 0 1 2 2\nbar 0 1 2", 2, 0),
    ("machine 3 0\nbead 0 1 2 2\npin 0 0 0", 2, 0), ("machine 3 0\nbar 0 1 2\npin 9 x", 2, 0),
    ("machine 3 0\npin 0 0 0\n\nbar 0 1 2", 2, 0), ("machine 3 0\nbar 0 1 2\n", 2, 0),
    ("machine 3 0\nbar 0 1 2\r\nbar 0 2 2", 1, 3), ("machine 3 0\nbar 0 1 2\n\n", 2, 0),
    # pins
    ("machine 3 0\npin", 1, 1), ("machine 3 0\npin ", 1, 1), ("machine 3 0\npin 3 0 0", 1, 1),
    ("machine 3 0\npin -1 0 0", 1, 1), ("machine 3 0\npin x 0 0", 1, 1), ("machine 3 0\npin 1/2 0 0", 1, 1),
    ("machine 3 0\npin 00 0 0", 1, 1), ("machine 3 0\npin 0", 1, 2), ("machine 3 0\npin 0 x 0", 1, 2),
    ("machine 3 0\npin 0 4/2 0", 1, 2), ("machine 3 0\npin 0  0", 1, 2), ("machine 3 0\npin 0 0", 1, 3),
    ("machine 3 0\npin 0 0 3/1", 1, 3), ("machine 3 0\npin 0 0 -0", 1, 3), ("machine 3 0\npin 0 0 ", 1, 3),
    ("machine 3 0\npin 0 0 0 0", 1, 4), ("machine 3 0\npin 0 0 0 ", 1, 4),
    ("machine 3 0\npin 1 0 0\npin 1 0 0", 2, 1), ("machine 3 0\npin 1 0 0\npin 1 1 0", 2, 1),
    ("machine 3 0\npin 1 0 0\npin 0 0 0", 2, 1), ("machine 3 0\npin 1 0 0\npin 3 0 0", 2, 1),
    ("machine 3 0\npin 1 0 0\npin 2 0 0\npin 1 0 0", 3, 1),
    # bars
    ("machine 5 0\nbar", 1, 1), ("machine 5 0\nbar 5 6 1", 1, 1), ("machine 5 0\nbar -1 1 1", 1, 1),
    ("machine 5 0\nbar 1", 1, 2), ("machine 5 0\nbar 1 5 1", 1, 2), ("machine 5 0\nbar 1 1 1", 1, 2),
    ("machine 5 0\nbar 1 0 1", 1, 2), ("machine 5 0\nbar 1 x 1", 1, 2), ("machine 5 0\nbar 4 4 1", 1, 2),
    ("machine 5 0\nbar 4 5 1", 1, 2), ("machine 5 0\nbar 1 2", 1, 3), ("machine 5 0\nbar 1 2 0", 1, 3),
    ("machine 5 0\nbar 1 2 -1", 1, 3), ("machine 5 0\nbar 1 2 -1/2", 1, 3), ("machine 5 0\nbar 1 2 2/4", 1, 3),
    ("machine 5 0\nbar 1 2 1/0", 1, 3), ("machine 5 0\nbar 1 2 1/1", 1, 3), ("machine 5 0\nbar 1 2 1 1", 1, 4),
    ("machine 5 0\nbar 1 4 2\nbar 0 4 2", 2, 1), ("machine 5 0\nbar 1 4 2\nbar 1 4 2", 2, 2),
    ("machine 5 0\nbar 1 4 2\nbar 1 4 3", 2, 2), ("machine 5 0\nbar 1 4 2\nbar 1 3 2", 2, 2),
    ("machine 5 0\nbar 1 4 2\nbar 1 1 2", 2, 2), ("machine 5 0\nbar 1 4 2\nbar 1 0 2", 2, 2),
    ("machine 5 0\nbar 1 4 2\nbar 1 5 2", 2, 2), ("machine 5 0\nbar 1 4 2\nbar 1", 2, 2),
    ("machine 5 0\nbar 2 3 2\nbar 1 0 2", 2, 1), ("machine 5 0\nbar 2 3 2\nbar 1 1 2", 2, 1),
    ("machine 6 0\nbar 1 4 2\nbar 1 5 0", 2, 3), ("machine 5 0\npin 4 0 0\nbar 1 4 2\nbar 1 4 2", 3, 2),
    # beads
    ("machine 6 0\nbead", 1, 1), ("machine 6 0\nbead 6 0 1 1", 1, 1), ("machine 6 0\nbead 3", 1, 2),
    ("machine 6 0\nbead 3 3 4 1", 1, 2), ("machine 6 0\nbead 3 6 1 1", 1, 2), ("machine 6 0\nbead 3 -1 1 1", 1, 2),
    ("machine 6 0\nbead 3 0", 1, 3), ("machine 6 0\nbead 3 0 3 1", 1, 3), ("machine 6 0\nbead 3 1 1 1", 1, 3),
    ("machine 6 0\nbead 3 1 0 1", 1, 3), ("machine 6 0\nbead 3 4 3 1", 1, 3), ("machine 6 0\nbead 3 4 6 1", 1, 3),
    ("machine 6 0\nbead 0 5 0 1", 1, 3), ("machine 6 0\nbead 3 0 1", 1, 4), ("machine 6 0\nbead 3 0 1 x", 1, 4),
    ("machine 6 0\nbead 3 0 1 6/4", 1, 4), ("machine 6 0\nbead 3 0 1 1 1", 1, 5), ("machine 6 0\nbead 3 0 1 1 ", 1, 5),
    ("machine 6 0\nbead 3 1 4 1\nbead 2 0 1 1", 2, 1), ("machine 6 0\nbead 3 1 4 1\nbead 3 0 5 1", 2, 2),
    ("machine 6 0\nbead 3 1 4 1\nbead 3 1 2 1", 2, 3), ("machine 6 0\nbead 3 1 4 1\nbead 3 1 4 1", 2, 3),
    ("machine 6 0\nbead 3 1 4 1\nbead 3 1 4 0", 2, 3), ("machine 6 0\nbead 3 1 4 1\nbead 3 1 3 1", 2, 3),
    ("machine 6 0\nbead 3 1 4 1\nbead 3 1 0 1", 2, 3), ("machine 6 0\nbead 3 1 4 1\nbead 3 3 4 1", 2, 2),
    ("machine 6 0\nbead 3 1 4 1\nbead 3 1 6 1", 2, 3), ("machine 6 0\nbead 4 2 3 1\nbead 4 0 4 1", 2, 2),
    ("machine 6 0\nbead 4 2 3 1\nbead 3 3 3 1", 2, 1), ("machine 6 0\nbead 3 4 5 1\nbead 3 4 5 1\nx", 2, 3),
]

# What may stand behind one another, though it is near to what may not.
TEXTS = [
    "machine 1 0", "machine 4000 3999", "machine 1 0\npin 0 0 0", "machine 3 2\npin 0 -1/2 7/3\npin 2 0 0",
    "machine 6 0\nbar 1 4 2\nbar 1 5 1/2\nbar 2 3 2", "machine 3 0\nbead 0 1 2 -5\nbead 1 0 2 0\nbead 2 0 1 0",
    "machine 6 0\nbead 3 1 4 1\nbead 3 1 5 1\nbead 3 2 4 1\nbead 4 0 1 1/2", "machine 3 0\npin 2 0 0\nbead 0 1 2 1",
    "machine 3 0\npin 1 0 0\nbar 0 1 2\nbead 2 0 1 1/2",
]


class TestThereAndBack(Case):
    def test_tent(self):
        text = "machine 4 3\npin 0 0 0\npin 1 4 0\nbar 0 2 3\nbar 1 2 3\nbead 3 0 2 2/3"
        self.same([str(tent()), str(Machine.read(text)), Machine.read(text=text) == tent()], [text, text, True])

    def test_texts(self):
        for text in TEXTS:
            machine = Machine.read(text)
            self.same([str(machine), machine == Machine.read(text)], [text, True])

    def test_what_is_read(self):
        machine = Machine.read("machine 4 2\npin 0 -1/2 7\nbar 1 3 5/2\nbead 3 0 1 -2/3")
        self.same(
            [machine.many, machine.pins, machine.bars, machine.beads, machine.pen],
            [4, ((0, ((-1, 2), 7)),), ((1, 3, (5, 2)),), ((3, 0, 1, (-2, 3)),), 2])

    def test_some_machines(self):
        for seed in range(12):
            machine = Machine(*some_machine(seed, 3 + seed))
            again = Machine.read(str(machine))
            self.same(again == machine, True)
            self.same([again.pins, again.bars, again.beads], [machine.pins, machine.bars, machine.beads])

    def test_digits(self):
        most = "9" * 60
        text = f"machine 2 0\npin 0 {most} -{most}\nbar 0 1 {most}/1{'0' * 59}"
        self.same(str(Machine.read(text)), text)
        for line, item in ((1, 2), (1, 3), (2, 3)):
            lines = [row.split(" ") for row in text.split("\n")]
            for digits in ("1" + "0" * 60, "-1" + "0" * 60, "1/1" + "0" * 60, "1" + "0" * 60 + "/7"):
                lines[line][item] = digits
                self.refuses(BadText(line, item), Machine.read, "\n".join(" ".join(row) for row in lines))

    def test_text_of_great_numbers(self):
        great = 10 ** 900
        machine = Machine(2, [(0, (great, (1, great)))], [(0, 1, (great, 3))], [], 0)
        self.same(str(machine), f"machine 2 0\npin 0 {great} 1/{great}\nbar 0 1 {great}/3")


class TestErrors(Case):
    def test_where_it_is_not_right(self):
        for text, line, item in NO_TEXTS:
            self.refuses(BadText(line, item), Machine.read, text)

    def test_no_strings(self):
        for value in (None, True, 0, b"machine 1 0", ["machine 1 0"], ("machine", 1, 0), tent(), {}, 0.5, Machine):
            self.refuses(BadText(0, 0), Machine.read, value)

    def test_items_left_out_put_in_and_changed(self):
        text = "machine 6 2\npin 0 1/2 -3\npin 4 0 0\nbar 1 4 2\nbar 2 3 5/2\nbead 3 1 4 1\nbead 5 0 2 -2"
        Machine.read(text)
        rows = [line.split(" ") for line in text.split("\n")]
        for line, row in enumerate(rows):
            for at in range(len(row)):
                for bad in ("", "x", "+1", "01", "-0", "1/1", "2/4", "1.0", "1e1", "6", "\u0661", "1/-2", "/2", "2/"):
                    if bad == "6" and (at == 0
                            or at > len(row) - {"pin": 2, "machine": 0}.get(row[0], 1) - 1 or line == 0):
                        continue
                    self.refused(rows, line, row[:at] + [bad] + row[at + 1:], at)
                self.refused(rows, line, row[:at] + [""] + row[at:], at)
            self.refused(rows, line, row + ["1"], len(row))
            self.refused(rows, line, row + [""], len(row))
            self.refused(rows, line, row[:-1], len(row) - 1)
            self.refused(rows, line, row[1:], 0)

    def refused(self, rows, line, row, item):
        lines = [" ".join(items) for items in rows[:line] + [row] + rows[line + 1:]]
        self.refuses(BadText(line, item), Machine.read, "\n".join(lines))

    def test_lines_left_out_told_twice_exchanged(self):
        lines = ["machine 6 2", "pin 0 1/2 -3", "pin 4 0 0", "bar 1 4 2", "bar 2 3 5/2", "bead 3 1 4 1",
            "bead 5 0 2 -2"]
        for at in range(1, len(lines)):
            left = lines[:at] + lines[at + 1:]
            self.same(str(Machine.read("\n".join(left))), "\n".join(left))
            named = {"pin": 1, "bar": 2, "bead": 3}[lines[at].split(" ")[0]]
            self.refuses(BadText(at + 1, named), Machine.read, "\n".join(lines[:at + 1] + lines[at:]))
            self.refuses(BadText(at, 0), Machine.read, "\n".join(lines[:at] + [""] + lines[at:]))
        self.refuses(BadText(0, 0), Machine.read, "\n".join(lines[1:]))
        self.refuses(BadText(1, 0), Machine.read, "\n".join(lines[:1] + lines))
        self.refuses(BadText(7, 0), Machine.read, "\n".join(lines) + "\n")
        for at, line, item in ((0, 0, 0), (1, 2, 1), (2, 3, 0), (3, 4, 1), (4, 5, 0), (5, 6, 1)):
            turned = lines[:at] + [lines[at + 1], lines[at]] + lines[at + 2:]
            self.refuses(BadText(line, item), Machine.read, "\n".join(turned))


class TestGreatMachines(Case):
    def test_in_a_short_time(self):
        start = time.perf_counter()
        bars = [(at, at + 1, 1) for at in range(3999)]
        machine = Machine(4000, [(0, (0, 0))], bars, [(at, at + 1, at + 2, (1, 2)) for at in range(3998)], 0)
        text = str(machine)
        self.assertLess(len(text), 200000)
        self.same(Machine.read(text) == machine, True)
        self.refuses(BadText(7998, 5), Machine.read, text + " ")
        self.assertLess(time.perf_counter() - start, 5)


if __name__ == "__main__":
    unittest.main()
