"""[7]: machines, the form in which they keep their parts, what is at a joint, lengths, islands."""

import time
import unittest
from fractions import Fraction
from random import Random

from helpers import (
    NO_LENGTHS, NO_MACHINES, NO_NUMBERS, NO_POINTS, Case, fraction, number, some_machine, tent)
from typedcurve.errors import BadMachine, BadNumber
from typedcurve.machines import Machine, cut_list, islands

NO_MANY = [0, -1, 4001, 10 ** 40, True, False, None, 2.0, "3", (3, 2), (3,), [3], (), {}, object()]
NO_LISTS = [None, True, 0, 7, "", "ab", {}, {0: 1}, {1}, 0.5, object(), Machine]
NO_JOINTS = [4, 5, -1, -4, 10 ** 40, True, False, None, 1.0, "1", (1, 2), (1,), [], object()]


class TestExamples(Case):
    def test_tent(self):
        machine = tent()
        self.same(
            [machine.many, machine.pins, machine.bars, machine.beads, machine.pen],
            [4, ((0, (0, 0)), (1, (4, 0))), ((0, 2, 3), (1, 2, 3)), ((3, 0, 2, (2, 3)),), 3])
        self.same(str(machine), 'machine 4 3\npin 0 0 0\npin 1 4 0\nbar 0 2 3\nbar 1 2 3\nbead 3 0 2 2/3')
        self.same(
            [Machine.read(str(machine)) == machine, Machine.MOST, machine.pins_at(2), machine.bars_at(joint=2),
             machine.beads_at(0), machine.linked(0)],
            [True, 4000, (), ((0, 2, 3), (1, 2, 3)), ((3, 0, 2, (2, 3)),), (2, 3)])

    def test_lengths_and_islands(self):
        third = Machine(3, [], [(0, 1, 2), (1, 2, (3, 2)), (0, 2, 2)], [], 0)
        self.same(
            [cut_list(tent()), islands(tent()), islands(Machine(4, [], [(3, 1, (1, 2))], (), 0)),
             cut_list(machine=third)],
            [((3, 2),), ((0, 1, 2, 3),), ((0,), (1, 3), (2,)), (((3, 2), 1), (2, 2))])

    def test_errors(self):
        self.refuses(BadMachine("bars"), Machine, 3, [], [(0, 1, 2), (1, 0, 2)], [], 0)
        self.refuses(BadMachine("bars"), Machine, 3, [], [(0, 1, 0)], [(2, 0, 2, 1)], 3)
        self.refuses(BadMachine("beads"), Machine, 3, [], [], [(2, 0, 1, 1), (2, 1, 0, 0)], 0)


class TestForm(Case):
    def test_any_order(self):
        many, pins, bars, beads, pen = some_machine(1, 12)
        machine = Machine(many, pins, bars, beads, pen)
        random = Random(5)
        for _ in range(10):
            for rows in (pins, bars, beads):
                random.shuffle(rows)
            turned_bars = [(other, one, length) for one, other, length in bars]
            turned_beads = [
                (joint, other, one, number(1 - fraction(share))) if random.randrange(2) else (joint, one, other, share)
                for joint, one, other, share in beads]
            for told in ((pins, bars, beads), (tuple(pins), turned_bars, tuple(turned_beads)),
                         ([list(pin) for pin in pins], [list(bar) for bar in bars], [list(bead) for bead in beads])):
                again = Machine(many, *told, pen)
                self.same(
                    [again.many, again.pins, again.bars, again.beads, again.pen],
                    [machine.many, machine.pins, machine.bars, machine.beads, machine.pen])
                self.same(again == machine, True)

    def test_ascending_with_the_lesser_joint_ahead(self):
        for seed in range(5):
            many, pins, bars, beads, pen = some_machine(seed, 9)
            machine = Machine(many, pins, bars, beads, pen)
            self.same(machine.pins, tuple(sorted(pins, key=lambda pin: pin[0])))
            self.same(
                machine.bars, tuple(sorted((min(bar[:2]), max(bar[:2]), bar[2]) for bar in bars)))
            kept = [
                (bead[0], min(bead[1:3]), max(bead[1:3]),
                 bead[3] if bead[1] < bead[2] else number(1 - fraction(bead[3]))) for bead in beads]
            self.same(machine.beads, tuple(sorted(kept, key=lambda bead: bead[:3])))

    def test_exchanged_beads(self):
        for share, other_share in ((0, 1), (1, 0), ((1, 2), (1, 2)), ((1, 3), (2, 3)), (-1, 2), (5, -4),
                ([-7, 2], (9, 2))):
            self.same(Machine(3, [], [], [(0, 2, 1, share)], 0).beads, ((0, 1, 2, other_share),))
            kept = tuple(share) if isinstance(share, list) else share
            self.same(Machine(3, [], [], [(0, 1, 2, share)], 0).beads, ((0, 1, 2, kept),))

    def test_several_beads_of_a_joint(self):
        beads = [(0, 1, 2, 1), (0, 3, 1, 1), (0, 2, 3, 1), (1, 0, 2, 0), (2, 0, 1, 0)]
        self.same(
            Machine(4, (), (), beads, 0).beads,
            ((0, 1, 2, 1), (0, 1, 3, 0), (0, 2, 3, 1), (1, 0, 2, 0), (2, 0, 1, 0)))

    def test_what_was_passed_may_change(self):
        point, pin, bar, bead = [[1, 2], 3], [0], [1, 0, [3, 2]], [2, 1, 0, [1, 3]]
        pin.append(point)
        pins, bars, beads = [pin], [bar], [bead]
        machine = Machine(3, pins, bars, beads, 1)
        self.same([pins, bars, beads], [[[0, [[1, 2], 3]]], [[1, 0, [3, 2]]], [[2, 1, 0, [1, 3]]]])
        point[0][0] = 7
        bar[2][0] = 5
        bead[3][1] = 7
        for rows in (pin, pins, bars, beads):
            rows.append(9)
        self.same(
            [machine.pins, machine.bars, machine.beads],
            [((0, ((1, 2), 3)),), ((0, 1, (3, 2)),), ((2, 0, 1, (2, 3)),)])
        self.same(machine.pins_at(0) + machine.bars_at(0) + machine.beads_at(0),
            ((0, ((1, 2), 3)), (0, 1, (3, 2)), (2, 0, 1, (2, 3))))

    def test_by_name(self):
        machine = Machine(pen=1, beads=(), bars=[(0, 1, 2)], pins=(), many=2)
        self.same([machine.many, machine.pins, machine.bars, machine.beads, machine.pen], [2, (), ((0, 1, 2),), (), 1])

    def test_how_many_joints(self):
        self.same([Machine(1, [(0, (1, 1))], [], [], 0).pins], [((0, (1, 1)),)])
        great = Machine(4000, [(3999, (0, 0))], [(0, 3999, 1)], [(3998, 3999, 0, 0)], 3999)
        self.same([great.many, great.pen, great.beads], [4000, 3999, ((3998, 0, 3999, 1),)])

    def test_equal(self):
        told = [4, ((0, (0, 0)),), ((0, 1, 2),), ((2, 0, 1, 1),), 3]
        machine = Machine(*told)
        self.same([machine == Machine(*told), machine != Machine(*told)], [True, False])
        for at, other in ((0, 5), (1, ()), (1, ((0, (0, 1)),)), (1, ((1, (0, 0)),)), (2, ()), (2, ((0, 1, 3),)),
                          (2, ((0, 2, 2),)), (3, ()), (3, ((2, 0, 1, 0),)), (4, 2)):
            changed = told[:at] + [other] + told[at + 1:]
            self.same([machine == Machine(*changed), machine != Machine(*changed)], [False, True])
        for other in NO_MACHINES + [str(machine), tuple(told)]:
            self.same([machine == other, other == machine], [False, False])


class TestAtJoints(Case):
    def test_each_joint(self):
        for seed in range(4):
            machine = Machine(*some_machine(seed, 10))
            for joint in range(10):
                self.same(machine.pins_at(joint), tuple(pin for pin in machine.pins if pin[0] == joint))
                self.same(machine.bars_at(joint), tuple(bar for bar in machine.bars if joint in bar[:2]))
                self.same(machine.beads_at(joint), tuple(bead for bead in machine.beads if joint in bead[:3]))
                named = [row[:-1] for row in machine.bars + machine.beads if joint in row[:-1]]
                self.same(machine.linked(joint), tuple(sorted({other for row in named for other in row} - {joint})))

    def test_by_name(self):
        machine = tent()
        self.same(
            [machine.pins_at(joint=1), machine.bars_at(joint=1), machine.beads_at(joint=1), machine.linked(joint=1)],
            [((1, (4, 0)),), ((1, 2, 3),), (), (2,)])
        self.same([machine.pins_at(3), machine.bars_at(3), machine.linked(3)], [(), (), (0, 2)])

    def test_beads_link_all_three(self):
        machine = Machine(4, [], [], [(2, 3, 0, 5)], 0)
        self.same([machine.linked(joint) for joint in range(4)], [(2, 3), (), (0, 3), (0, 2)])

    def test_pins_link_none(self):
        machine = Machine(3, [(0, (0, 0)), (1, (0, 0)), (2, (0, 0))], [], [], 0)
        self.same([machine.linked(joint) for joint in range(3)], [(), (), ()])
        self.same(islands(machine), ((0,), (1,), (2,)))

    def test_what_is_no_joint(self):
        machine = tent()
        for bad in NO_JOINTS:
            for ask in (machine.pins_at, machine.bars_at, machine.beads_at, machine.linked):
                self.refuses(BadNumber("joint"), ask, bad)


class TestLengthsAndIslands(Case):
    def test_lengths_ascending(self):
        lengths = [3, (1, 2), (10, 3), (7, 2), 2, (1, 3), 10, (99, 10), (1, 2), 3, 3, (2, 3),
            (10 ** 30 + 1, 10 ** 30), 1]
        bars = [(at, at + 1, length) for at, length in enumerate(lengths)]
        wanted = tuple((length, lengths.count(length)) for length in sorted(set(lengths), key=fraction))
        self.same(cut_list(Machine(len(bars) + 1, [], bars, [], 0)), wanted)
        self.same(cut_list(Machine(len(bars) + 1, [], bars[::-1], [], 0)), wanted)
        self.same(cut_list(Machine(3, [(0, (0, 0))], [], [(0, 1, 2, 5)], 0)), ())

    def test_some_lengths(self):
        random = Random(3)
        for many in (1, 2, 3, 7, 200):
            lengths = [number(Fraction(random.randint(1, 99), random.randint(1, 30))) for _ in range(many)]
            machine = Machine(many + 1, [], [(at, at + 1, length) for at, length in enumerate(lengths)], [], 0)
            wanted = tuple((length, lengths.count(length)) for length in sorted(set(lengths), key=fraction))
            self.same(cut_list(machine), wanted)

    def test_islands(self):
        self.same(islands(Machine(1, [], [], [], 0)), ((0,),))
        self.same(islands(Machine(6, [], [(5, 0, 1), (4, 2, 1)], [(3, 4, 1, 1)], 0)), ((0, 5), (1, 2, 3, 4)))
        self.same(islands(Machine(7, [], [(0, 6, 1), (6, 1, 1), (1, 5, 1), (2, 3, 1)], [], 0)),
            ((0, 1, 5, 6), (2, 3), (4,)))
        self.same(islands(machine=Machine(3, [], [], [(0, 1, 2, 0)], 0)), ((0, 1, 2),))

    def test_errors(self):
        for bad in NO_MACHINES:
            self.refuses(BadMachine("machine"), cut_list, bad)
            self.refuses(BadMachine("machine"), islands, bad)


class TestErrors(Case):
    def test_many(self):
        for bad in NO_MANY:
            self.refuses(BadNumber("many"), Machine, bad, None, None, None, None)
            self.refuses(BadNumber("many"), Machine, bad, [], [], [], 0)

    def test_lists(self):
        for bad in NO_LISTS:
            self.refuses(BadMachine("pins"), Machine, 4, bad, None, None, None)
            self.refuses(BadMachine("bars"), Machine, 4, [], bad, None, None)
            self.refuses(BadMachine("beads"), Machine, 4, [], [], bad, None)

    def test_rows(self):
        for bad in NO_LISTS + [(), [], (0,), (0, 1), (0, (0, 0), 1), (0, 1, 2, 3, 4), [[0, (0, 0)]]]:
            if bad != (0, 1):
                self.refuses(BadMachine("pins"), Machine, 4, [bad], [], [], 0)
            self.refuses(BadMachine("bars"), Machine, 4, [], [bad], [], 0)
            self.refuses(BadMachine("beads"), Machine, 4, [], [], [bad], 0)
        self.refuses(BadMachine("bars"), Machine, 4, [], [(0, 1, 1, 1)], [], 0)
        self.refuses(BadMachine("beads"), Machine, 4, [], [], [(0, 1, 2)], 0)
        self.refuses(BadMachine("beads"), Machine, 4, [], [], [(0, 1, 2, 1, 1)], 0)

    def test_joints(self):
        for bad in NO_JOINTS:
            self.refuses(BadMachine("pins"), Machine, 4, [(bad, (0, 0))], [], [], 0)
            for bar in ((bad, 1, 1), (1, bad, 1)):
                self.refuses(BadMachine("bars"), Machine, 4, [], [bar], [], 0)
            for bead in ((bad, 1, 2, 1), (1, bad, 2, 1), (1, 2, bad, 1)):
                self.refuses(BadMachine("beads"), Machine, 4, [], [], [bead], 0)

    def test_the_same_joint_twice(self):
        self.refuses(BadMachine("bars"), Machine, 4, [], [(2, 2, 1)], [], 0)
        for bead in ((1, 1, 2, 1), (1, 2, 1, 1), (2, 1, 1, 1), (3, 3, 3, 1)):
            self.refuses(BadMachine("beads"), Machine, 4, [], [], [bead], 0)

    def test_points_lengths_shares(self):
        for bad in NO_POINTS:
            self.refuses(BadMachine("pins"), Machine, 4, [(0, bad)], [], [], 0)
        for bad in NO_LENGTHS:
            self.refuses(BadMachine("bars"), Machine, 4, [], [(0, 1, bad)], [], 0)
        for bad in NO_NUMBERS:
            self.refuses(BadMachine("beads"), Machine, 4, [], [], [(0, 1, 2, bad)], 0)

    def test_told_twice(self):
        for again in ((0, (0, 0)), [0, [0, 0]], (0, (1, 1))):
            self.refuses(BadMachine("pins"), Machine, 4, [(0, (0, 0)), (1, (0, 0)), again], [], [], 0)
        for again in ((0, 1, 2), (1, 0, 2), [0, 1, 2], (0, 1, 3), (1, 0, 3)):
            self.refuses(BadMachine("bars"), Machine, 4, [], [(0, 1, 2), (0, 2, 2), again], [], 0)
        for again in ((3, 0, 1, (1, 3)), (3, 1, 0, (2, 3)), [3, 0, 1, [1, 3]], (3, 0, 1, 1), (3, 1, 0, (1, 3))):
            self.refuses(BadMachine("beads"), Machine, 4, [], [], [(3, 0, 1, (1, 3)), (3, 0, 2, 1), again], 0)

    def test_one_bad_row_among_good_ones(self):
        self.refuses(BadMachine("pins"), Machine, 4, [(0, (0, 0)), (4, (0, 0)), (1, (0, 0))], [], [], 0)
        self.refuses(BadMachine("bars"), Machine, 4, [], [(0, 1, 1), (0, 2, 0), (1, 2, 1)], [], 0)
        self.refuses(BadMachine("beads"), Machine, 4, [], [], [(0, 1, 2, 1), (0, 1, 3, 1), (1, 2, 2, 1)], 0)

    def test_pen(self):
        for bad in NO_JOINTS:
            self.refuses(BadNumber("pen"), Machine, 4, [], [], [], bad)
        self.refuses(BadNumber("pen"), Machine, 1, [], [], [], 1)

    def test_order(self):
        self.refuses(BadNumber("many"), Machine, 0, 0, 0, 0, -1)
        self.refuses(BadMachine("pins"), Machine, 4, 0, 0, 0, -1)
        self.refuses(BadMachine("bars"), Machine, 4, (), 0, 0, -1)
        self.refuses(BadMachine("beads"), Machine, 4, (), (), 0, -1)
        self.refuses(BadNumber("pen"), Machine, 4, (), (), (), -1)


class TestGreatMachines(Case):
    def test_in_a_short_time(self):
        start = time.perf_counter()
        bars = [(at, at + 1, (at + 3, at + 2)) for at in range(3999)] + [(at, at + 2, 1) for at in range(3998)]
        beads = [(at, at + 1, at + 2, (1, 2)) for at in range(3998)]
        machine = Machine(4000, [(at, (at, (1, 2))) for at in range(4000)], bars[::-1], beads[::-1], 3999)
        self.same([len(machine.bars), len(machine.beads), machine.bars[0]], [7997, 3998, (0, 1, (3, 2))])
        for joint in range(4000):
            machine.pins_at(joint), machine.bars_at(joint), machine.beads_at(joint), machine.linked(joint)
        self.same([len(cut_list(machine)), cut_list(machine)[:2]], [4000, ((1, 3998), ((4001, 4000), 1))])
        self.same(islands(machine), (tuple(range(4000)),))
        self.same(len(islands(Machine(4000, [], [], [], 0))), 4000)
        self.assertLess(time.perf_counter() - start, 5)


if __name__ == "__main__":
    unittest.main()
