"""Machines: joints, pins that hold some of them, bars, and beads on the way between two joints."""

from typedcurve.demands import need_within
from typedcurve.errors import BadMachine
from typedcurve.machine_parts import bars_kept, beads_kept, pins_kept
from typedcurve.machine_texts import machine_lines, parts_told
from typedcurve.ratios import ascending


class Machine:
    """A machine, told by its joints, pins, bars, beads and pen; it never changes."""

    MOST = 4000

    def __init__(self, many, pins, bars, beads, pen):
        need_within(many, 1, Machine.MOST, "many")
        self.many = many
        self.pins = pins_kept(pins, many)
        _need_kept(self.pins, "pins")
        self.bars = bars_kept(bars, many)
        _need_kept(self.bars, "bars")
        self.beads = beads_kept(beads, many)
        _need_kept(self.beads, "beads")
        need_within(pen, 0, many - 1, "pen")
        self.pen = pen
        # All joints of a great machine may be asked for, so what is at each one is found just once.
        self._pins_of = _at_each(many, self.pins, 1)
        self._bars_of = _at_each(many, self.bars, 2)
        self._beads_of = _at_each(many, self.beads, 3)

    def __eq__(self, other):
        if not isinstance(other, Machine):
            return False
        if (self.many, self.pen, self.pins) != (other.many, other.pen, other.pins):
            return False
        return self.bars == other.bars and self.beads == other.beads

    def __str__(self):
        return "\n".join(machine_lines(self.many, self.pen, self.pins, self.bars, self.beads))

    @staticmethod
    def read(text):
        """The machine whose text this is."""
        many, pen, pins, bars, beads = parts_told(text, Machine.MOST)
        return Machine(many, pins, bars, beads, pen)

    def pins_at(self, joint):
        """The pins at a joint."""
        need_joint(self, joint)
        return self._pins_of[joint]

    def bars_at(self, joint):
        """The bars at a joint, in the order in which the machine keeps them."""
        need_joint(self, joint)
        return self._bars_of[joint]

    def beads_at(self, joint):
        """The beads at a joint, in the order in which the machine keeps them."""
        need_joint(self, joint)
        return self._beads_of[joint]

    def linked(self, joint):
        """The joints that some bar or some bead names beside this one, ascending."""
        need_joint(self, joint)
        rows = self._bars_of[joint] + self._beads_of[joint]
        return tuple(sorted({other for row in rows for other in row[:-1] if other != joint}))


def need_machine(value, part):
    """Raises BadMachine for what is no Machine."""
    if not isinstance(value, Machine):
        raise BadMachine(part)


def need_joint(machine, joint):
    """Raises BadNumber for what is no joint of a machine."""
    need_within(joint, 0, machine.many - 1, "joint")


def cut_list(machine):
    """Pairs of a length and how many bars have it, ascending by length."""
    need_machine(machine, "machine")
    table = {}
    for _, _, length in machine.bars:
        table[length] = table.get(length, 0) + 1
    return tuple([(length, table[length]) for length in ascending(list(table))])


def islands(machine):
    """All islands, each a tuple of joints, ascending, the islands by their least joints."""
    need_machine(machine, "machine")
    found = []
    seen = set()
    for joint in range(machine.many):
        if joint not in seen:
            island = island_at(machine, joint)
            found.append(island)
            for member in island:
                seen.add(member)
    return tuple(found)


def island_at(machine, joint):
    """All joints that hang together with a joint, itself among them, ascending."""
    seen = {joint}
    waiting = [joint]
    while waiting:
        last = waiting.pop()
        for other in machine.linked(last):
            if other not in seen:
                seen.add(other)
                waiting.append(other)
    return tuple(sorted(seen))


def _need_kept(rows, part):
    if rows is None:
        raise BadMachine(part)


def _at_each(many, rows, named):
    """For each joint a tuple of the rows that name it, so many joints being named by each row."""
    found = [[] for _ in range(many)]
    for row in rows:
        for joint in row[:named]:
            found[joint].append(row)
    return tuple([tuple(row) for row in found])
