"""[7], [8], [12]: built machines read from their texts, taken apart, joined again, at other sides, stretched."""

import unittest

from helpers import Case, fraction, number, shown, some_poly, some_turns, through
from typedcurve.builds import end_in, machine_for, rays_in
from typedcurve.joins import island_of, joined, renamed, without
from typedcurve.machines import Machine, cut_list, islands
from typedcurve.poly_texts import typed
from typedcurve.polys import poly_product, stretched
from typedcurve.poses import Right, judged, kin_of, measured, mirrored_aside, shows_pose, turned_over
from typedcurve.ratios import difference_of, product_of
from typedcurve.stands import pen_at, stands

EAST, NORTH, THIRD = (1, 0), (0, 1), ((3, 5), (4, 5))


def some_builds():
    """Polynomials with a radius and two turns at which the curve stands."""
    polys = [typed("x"), typed("y"), typed("x * x + y * y"), typed("x * y - x"), typed("0"), some_poly(3, 2, 6),
        some_poly(5, 3, 4)]
    turns = some_turns()
    for at, poly in enumerate(polys):
        a, b, radius = turns[at], turns[(3 * at + 5) % 10], [1, (5, 6), (7, 3)][at % 3]
        yield through(poly, radius, a, b), radius, a, b


class TestTexts(Case):
    def test_read_again(self):
        for poly, radius, a, b in some_builds():
            machine = machine_for(poly, radius)
            again = Machine.read(str(machine))
            self.same(again == machine, True)
            self.same(shown(again), shown(machine))
            self.same(judged(again, stands(poly, radius, a, b).places) == Right(), True)

    def test_told_in_another_way(self):
        for poly, radius, _, _ in some_builds():
            machine = machine_for(poly, radius)
            bars = [(other, one, length) for one, other, length in machine.bars[::-1]]
            beads = [[joint, other, one, difference_of(1, share)] for joint, one, other, share in machine.beads]
            self.same(Machine(machine.many, machine.pins[::-1], bars, beads, machine.pen) == machine, True)


class TestParts(Case):
    def test_taken_apart_and_joined(self):
        for poly, radius, _, _ in some_builds():
            machine, end = machine_for(poly, radius), end_in(poly, radius)
            cell = list(range(machine.many - 9, machine.many))
            rest = without(machine, cell)
            # The cell with its end, which is joint 0 then, and without all the rest.
            alone = without(
                Machine(machine.many, machine.pins, machine.bars, machine.beads, end),
                [joint for joint in range(machine.many - 9) if joint != end])
            self.same((rest.many, alone.many), (machine.many - 9, 10))
            self.same(joined(rest, alone, [(end, 0)]) == machine, True)

    def test_a_reflector_taken_away(self):
        for poly, radius, _, _ in some_builds():
            machine, (_, end) = machine_for(poly, radius), rays_in(poly, radius)[-1]
            less = without(machine, list(range(end - 2, end + 10)))
            self.same(less.many, machine.many - 12)
            self.same(len(less.bars) <= len(machine.bars) - 12, True)

    def test_numbered_anew(self):
        for poly, radius, a, b in some_builds():
            machine, places = machine_for(poly, radius), stands(poly, radius, a, b).places
            order = [(7 * joint + 3) % machine.many for joint in range(machine.many)]
            if len(set(order)) < machine.many:
                order = list(range(machine.many))[::-1]
            other = renamed(machine, order)
            turned = [None] * machine.many
            for joint, name in enumerate(order):
                turned[name] = places[joint]
            self.same(judged(other, turned) == Right(), True)
            back = [order.index(joint) for joint in range(machine.many)]
            self.same(renamed(other, back) == machine, True)

    def test_one_island(self):
        for poly, radius, _, _ in some_builds():
            machine = machine_for(poly, radius)
            self.same(len(islands(machine)), 1)
            self.same(island_of(machine, machine.pen) == machine, True)
            self.same(sum(many for _, many in cut_list(machine)), len(machine.bars))


class TestOtherSides(Case):
    def test_all_kin_turned_over(self):
        for poly, radius, a, b in some_builds():
            machine, places = machine_for(poly, radius), stands(poly, radius, a, b).places
            seen = set()
            for joint in range(machine.many):
                kin = kin_of(places, joint)
                if kin and kin not in seen:
                    seen.add(kin)
                    self.same(shows_pose(machine, turned_over(places, joint)), True)
            self.assertTrue(seen)

    def test_a_key_alone(self):
        # A key hangs by its bars alone, so it can turn over by itself; a carrier's M cannot.
        for poly, radius, a, b in some_builds():
            machine, places = machine_for(poly, radius), stands(poly, radius, a, b).places
            for _, end in rays_in(poly, radius)[4:]:
                for key in (end + 8, end + 9):
                    self.same(shows_pose(machine, mirrored_aside(places, key)), True)
            self.same(shows_pose(machine, mirrored_aside(places, machine.many - 1)), True)
            for joint in sorted({joint for bead in machine.beads for joint in bead[1:3]}):
                if places[joint][2] != 0:
                    self.same(shows_pose(machine, mirrored_aside(places, joint)), False)

    def test_lengths_measured(self):
        for poly, radius, a, b in some_builds():
            machine, places = machine_for(poly, radius), stands(poly, radius, a, b).places
            self.same(
                measured(machine, places), tuple(product_of(length, length) for _, _, length in machine.bars))

    def test_another_machine(self):
        # Where the curve of another constant goes, this one's last end is off its line.
        for poly, radius, a, b in some_builds():
            places = stands(poly, radius, a, b).places
            other = machine_for(through(poly, radius, b, EAST), radius)
            if pen_at(radius, a, b) != pen_at(radius, b, EAST) and other != machine_for(poly, radius):
                self.same(shows_pose(other, places), False)


class TestStretched(Case):
    def test_stretched_alike(self):
        for poly, radius, a, b in some_builds():
            for factor in (2, (1, 3), (-7, 5)):
                far = number(abs(fraction(radius) * fraction(factor)))
                other = stretched(poly, number(abs(fraction(factor))))
                self.same(bool(stands(other, far, a, b)), True)
                one, more = machine_for(poly, radius), machine_for(other, far)
                # Just the arms differ: their bars and the shares of their two beads.
                self.same((one.many, one.pins, one.pen), (more.many, more.pins, more.pen))
                elbows = (one.pen - 2, one.pen - 1)
                self.same(
                    [bead for bead in one.beads if bead[0] not in elbows],
                    [bead for bead in more.beads if bead[0] not in elbows])
                arms = [bar for bar in one.bars if one.pen - 2 <= bar[0] and bar[1] <= one.pen + 2]
                others = [bar for bar in more.bars if one.pen - 2 <= bar[0] and bar[1] <= one.pen + 2]
                self.same((len(arms), [bar[2] for bar in others]), (3, [far] * 3))
                self.same([bar for bar in one.bars if bar not in arms], [bar for bar in more.bars if bar not in others])

    def test_a_product_that_is_typed(self):
        parts = ["x * x + y * y - 1", "y - x"]
        both = typed(" * ".join(f"( {part} )" for part in parts))
        self.same(both == poly_product(typed(parts[0]), typed(parts[1])), True)
        for a in some_turns():
            for b in (NORTH, THIRD, ((3, 5), (-4, 5)), (-1, 0)):
                for radius in (1, (5, 6)):
                    stood = [bool(stands(typed(part), radius, a, b)) for part in parts]
                    self.same(bool(stands(both, radius, a, b)), any(stood))


if __name__ == "__main__":
    unittest.main()
