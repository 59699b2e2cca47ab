"""[7]: machines made of others: renamed, joined, without some joints, an island alone."""

import time
import unittest
from random import Random

from helpers import NO_MACHINES, Case, some_machine, tent
from typedcurve.errors import BadMachine, BadNumber, Misfit, TooMany
from typedcurve.joins import island_of, joined, renamed, without
from typedcurve.machines import Machine, islands

NO_LISTS = [None, True, 0, 7, "", "0123", {0: 1, 1: 0, 2: 2, 3: 3}, {0, 1, 2, 3}, 0.5, object(), Machine]
NO_JOINTS = [4, -1, 10 ** 40, True, False, None, 1.0, "1", (1, 2), (1,), [], object()]


def told(machine):
    """All attributes of a machine."""
    return machine.many, machine.pins, machine.bars, machine.beads, machine.pen


def stick(length=2):
    return Machine(2, [], [(0, 1, length)], [], 1)


class TestExamples(Case):
    def test_renamed(self):
        about = renamed(tent(), [1, 0, 3, 2])
        self.same(
            [about.pins, about.bars, about.beads, about.pen,
             renamed(machine=about, order=(1, 0, 3, 2)) == Machine(*told(about)[:1], *told(tent())[1:])],
            [((0, (4, 0)), (1, (0, 0))), ((0, 3, 3), (1, 3, 3)), ((2, 1, 3, (2, 3)),), 2, True])
        self.same(renamed(machine=about, order=(1, 0, 3, 2)) == tent(), True)

    def test_joined(self):
        long = joined(tent(), stick(), [(3, 1)])
        self.same(
            [long.many, long.bars, long.pen, without(long, [4]) == tent(),
             joined(one=stick(), other=stick(), pairs=[(0, 1), (1, 0)]) == stick()],
            [5, ((0, 2, 3), (1, 2, 3), (3, 4, 2)), 3, True, True])

    def test_two(self):
        two = joined(stick(), tent(), ())
        self.same(
            [two.many, two.pins, two.beads, islands(two),
             island_of(two, 4) == Machine(4, tent().pins, tent().bars, tent().beads, 2),
             without(two, [5, 2, 4, 3]) == stick()],
            [6, ((2, (0, 0)), (3, (4, 0))), ((5, 2, 4, (2, 3)),), ((0, 1), (2, 3, 4, 5)), True, True])

    def test_errors(self):
        self.refuses(Misfit("pins"), joined, tent(), tent(), [(1, 0)])
        self.refuses(Misfit("bars"), joined, stick(), Machine(2, [], [(0, 1, 3)], [], 0), [(1, 0), (0, 1)])
        self.refuses(Misfit("pen"), without, tent(), [3])
        self.refuses(BadNumber("order"), renamed, tent(), [0, 1, 2, 2])


class TestRenamed(Case):
    def test_each_joint_gets_its_number(self):
        machine = Machine(4, [(0, (5, 6))], [(0, 1, 7)], [(1, 2, 3, (1, 3))], 0)
        self.same(
            told(renamed(machine, [2, 0, 3, 1])),
            (4, ((2, (5, 6)),), ((0, 2, 7),), ((0, 1, 3, (2, 3)),), 2))

    def test_there_and_back(self):
        random = Random(2)
        for seed in range(8):
            machine = Machine(*some_machine(seed, 4 + seed))
            before = told(machine)
            order = list(range(machine.many))
            random.shuffle(order)
            kept = list(order)
            back = [order.index(joint) for joint in range(machine.many)]
            other = renamed(machine, order)
            self.same(told(renamed(other, tuple(back))), before)
            self.same([told(machine), order], [before, kept])
            for joint in range(machine.many):
                self.same(other.linked(order[joint]), tuple(sorted(order[at] for at in machine.linked(joint))))
                self.same([pin[1] for pin in other.pins_at(order[joint])], [pin[1] for pin in machine.pins_at(joint)])
            self.same(other.pen, order[machine.pen])
            self.same(renamed(machine, list(range(machine.many))) == machine, True)

    def test_what_is_no_order(self):
        for bad in NO_LISTS + [[], [0, 1, 2], [0, 1, 2, 3, 4], [0, 1, 2, 4], [1, 2, 3, 4], [0, 0, 1, 2],
                [[0, 1, 2, 3]]]:
            self.refuses(BadNumber("order"), renamed, tent(), bad)
        for bad in NO_JOINTS:
            self.refuses(BadNumber("order"), renamed, tent(), [bad, 0, 2, 3])
            self.refuses(BadNumber("order"), renamed, tent(), (0, 2, 3, bad))


class TestJoined(Case):
    def test_no_pairs(self):
        one, other = Machine(*some_machine(1, 6)), Machine(*some_machine(2, 5))
        both = joined(one, other, [])
        self.same(
            told(both),
            (11, one.pins + tuple((joint + 6, point) for joint, point in other.pins),
             one.bars + tuple((a + 6, b + 6, length) for a, b, length in other.bars),
             one.beads + tuple((j + 6, a + 6, b + 6, share) for j, a, b, share in other.beads), one.pen))

    def test_numbers_behind(self):
        one = Machine(3, [], [(0, 1, 1)], [], 2)
        other = Machine(5, [(0, (7, 7))], [(0, 1, 2), (1, 2, 3), (2, 3, 4), (3, 4, 5)], [(4, 0, 2, (1, 3))], 0)
        both = joined(one, other, [[2, 3], (0, 1)])
        # The joints 0, 2 and 4 of other become 3, 4 and 5.
        self.same(
            told(both),
            (6, ((3, (7, 7)),), ((0, 1, 1), (0, 3, 2), (0, 4, 3), (2, 4, 4), (2, 5, 5)), ((5, 3, 4, (1, 3)),), 2))

    def test_alike_becomes_one(self):
        machine = Machine(*some_machine(4, 7))
        whole = [(joint, joint) for joint in range(7)]
        self.same(told(joined(machine, machine, whole)), told(machine))
        self.same(told(joined(machine, machine, tuple(whole[::-1]))), told(machine))
        order = [3, 5, 0, 6, 1, 2, 4]
        self.same(told(joined(machine, renamed(machine, order), list(enumerate(order)))), told(machine))

    def test_alike_as_a_machine_keeps_them(self):
        one = Machine(3, [(0, (1, 2))], [(0, 1, 5)], [(2, 0, 1, (1, 3))], 0)
        other = Machine(3, [(2, (1, 2))], [(1, 2, 5)], [(0, 1, 2, (2, 3))], 0)
        self.same(told(joined(one, other, [(0, 2), (1, 1), (2, 0)])), told(one))

    def test_what_does_not_fit(self):
        one = Machine(3, [(0, (1, 2))], [(0, 1, 5)], [(2, 0, 1, (1, 3))], 0)
        pairs = [(0, 2), (1, 1), (2, 0)]
        pin, bar, bead = (2, (1, 3)), (1, 2, (5, 2)), (0, 1, 2, (1, 3))
        self.refuses(Misfit("pins"), joined, one, Machine(3, [pin], [], [], 0), pairs)
        self.refuses(Misfit("bars"), joined, one, Machine(3, [], [bar], [], 0), pairs)
        self.refuses(Misfit("beads"), joined, one, Machine(3, [], [], [bead], 0), pairs)
        self.refuses(Misfit("pins"), joined, one, Machine(3, [pin], [bar], [bead], 0), pairs)
        self.refuses(Misfit("bars"), joined, one, Machine(3, [], [bar], [bead], 0), pairs)
        self.same(joined(one, Machine(3, [pin], [bar], [bead], 0), pairs[1:2]).many, 5)

    def test_other_beads_of_the_same_joints(self):
        one, other = Machine(3, [], [], [(2, 0, 1, 1)], 0), Machine(3, [], [], [(0, 1, 2, 1)], 0)
        both = joined(one, other, [(0, 0), (1, 1), (2, 2)])
        self.same(both.beads, ((0, 1, 2, 1), (2, 0, 1, 1)))

    def test_pen(self):
        one, other = Machine(3, [], [], [], 2), Machine(3, [], [], [], 1)
        self.same([joined(one, other, []).pen, joined(one, other, [(2, 0)]).pen, joined(other, one, [(1, 0)]).pen],
            [2, 2, 1])

    def test_too_many(self):
        great, small = Machine(3998, [(0, (0, 0))], [], [], 0), Machine(3, [(0, (1, 0))], [], [], 0)
        self.same(joined(great, small, [(3997, 1)]).many, 4000)
        self.refuses(TooMany("joints", 4000), joined, great, small, [])
        self.refuses(TooMany("joints", 4000), joined, great, great, [(at, at) for at in range(3995)])
        self.refuses(Misfit("pins"), joined, great, Machine(4, [(0, (1, 0))], [], [], 0), [(0, 0)])
        self.same(joined(great, great, [(at, at) for at in range(3996)]).many, 4000)

    def test_what_is_passed_stays(self):
        one, other, pairs = tent(), stick(), [[3, 1]]
        joined(one, other, pairs)
        self.same([told(one), told(other), pairs], [told(tent()), told(stick()), [[3, 1]]])

    def test_pairs(self):
        for bad in NO_LISTS + [[0], [(0,)], [(0, 1, 2)], [[]], [None], ["01"], (0, 1), [{0: 1, 1: 0}]]:
            self.refuses(BadNumber("pairs"), joined, tent(), stick(), bad)
        for bad in NO_JOINTS:
            self.refuses(BadNumber("pairs"), joined, tent(), stick(), [(bad, 0)])
            self.refuses(BadNumber("pairs"), joined, stick(), tent(), [(0, bad)])
        for bad in ([(0, 2)], [(4, 0)], [(0, 0), (0, 1)], [(0, 0), (1, 0)], [(0, 0), (0, 0)], [(0, 0), (1, 1), (2, 0)]):
            self.refuses(BadNumber("pairs"), joined, tent(), stick(), bad)


class TestWithout(Case):
    def test_numbered_anew(self):
        machine = Machine(6, [(at, (at, at)) for at in range(6)], [(0, 5, 1), (1, 2, 2), (2, 5, 3)],
                          [(3, 0, 5, 2), (5, 1, 4, 3), (4, 3, 5, (1, 2))], 5)
        self.same(
            told(without(machine, [1, 4])),
            (4, ((0, (0, 0)), (1, (2, 2)), (2, (3, 3)), (3, (5, 5))), ((0, 3, 1), (1, 3, 3)), ((2, 0, 3, 2),), 3))
        self.same(told(without(machine=machine, joints=(4, 1))), told(without(machine, [1, 4])))
        self.same(told(without(machine, [0, 1, 2, 3, 4])), (1, ((0, (5, 5)),), (), (), 0))
        self.same(told(without(machine, [])), told(machine))

    def test_one_after_another(self):
        for seed in range(6):
            machine = Machine(*some_machine(seed, 8))
            before = told(machine)
            gone = [joint for joint in range(8) if joint != machine.pen][seed % 3::2]
            rest = machine
            for joint in sorted(gone, reverse=True):
                rest = without(rest, [joint])
            self.same(told(without(machine, gone)), told(rest))
            self.same(told(machine), before)

    def test_pen(self):
        machine = Machine(3, [], [], [], 1)
        self.same([without(machine, [0]).pen, without(machine, [2]).pen, without(machine, [2, 0]).pen], [0, 1, 0])
        for joints in ([1], [0, 1], (1, 0, 2)):
            self.refuses(Misfit("pen"), without, machine, joints)

    def test_joints(self):
        for bad in NO_LISTS + [[0, 0], [3, 3], [0, 1, 0], [[0]], [4, 3]]:
            self.refuses(BadNumber("joints"), without, tent(), bad)
        for bad in NO_JOINTS:
            self.refuses(BadNumber("joints"), without, tent(), [bad])
            self.refuses(BadNumber("joints"), without, tent(), (3, bad))


class TestIslands(Case):
    def test_each_island(self):
        machine = Machine(7, [(6, (1, 1)), (2, (0, 0))], [(5, 2, 3), (0, 6, 2)], [(1, 6, 0, (1, 4))], 3)
        self.same(islands(machine), ((0, 1, 6), (2, 5), (3,), (4,)))
        self.same(told(island_of(machine, 6)), (3, ((2, (1, 1)),), ((0, 2, 2),), ((1, 0, 2, (3, 4)),), 2))
        self.same(told(island_of(machine, 0)), (3, ((2, (1, 1)),), ((0, 2, 2),), ((1, 0, 2, (3, 4)),), 0))
        self.same(told(island_of(joint=5, machine=machine)), (2, ((0, (0, 0)),), ((0, 1, 3),), (), 1))
        self.same(told(island_of(machine, 4)), (1, (), (), (), 0))

    def test_joined_again(self):
        machine = Machine(6, [(0, (1, 1))], [(0, 1, 1), (2, 3, 1)], [(1, 0, 4, 2)], 0)
        parts = [island_of(machine, island[0]) for island in islands(machine)]
        again = parts[0]
        for part in parts[1:]:
            again = joined(again, part, [])
        order = [joint for island in islands(machine) for joint in island]
        self.same(told(renamed(again, order)), told(machine))


class TestErrors(Case):
    def test_machines(self):
        for bad in NO_MACHINES:
            self.refuses(BadMachine("machine"), renamed, bad, None)
            self.refuses(BadMachine("one"), joined, bad, None, None)
            self.refuses(BadMachine("other"), joined, stick(), bad, None)
            self.refuses(BadMachine("machine"), without, bad, None)
            self.refuses(BadMachine("machine"), island_of, bad, None)

    def test_joint(self):
        for bad in NO_JOINTS:
            self.refuses(BadNumber("joint"), island_of, tent(), bad)


class TestGreatMachines(Case):
    def test_in_a_short_time(self):
        start = time.perf_counter()
        bars = [(at, at + 1, 1) for at in range(1999)]
        half = Machine(2000, [], bars, [(at, at + 1, at + 2, (1, 2)) for at in range(1998)], 7)
        both = joined(half, half, [])
        self.same([both.many, len(both.bars), island_of(both, 2007) == half], [4000, 3998, True])
        self.same(without(both, list(range(2000, 4000))) == half, True)
        self.same(told(renamed(both, list(range(3999, -1, -1))))[4], 3992)
        self.assertLess(time.perf_counter() - start, 5)


if __name__ == "__main__":
    unittest.main()
