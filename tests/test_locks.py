"""[9]: locks of frames, at which corners the key has room, and where it stands."""

import unittest
from fractions import Fraction

from helpers import NO_LENGTHS, NO_POINTS, NO_SIDES, Case, fraction, fractions, gone, number, some_frames, square
from typedcurve.errors import BadNumber, BadPoint, Misfit
from typedcurve.frames import corners, is_flat, midpoints, mirrored, spread
from typedcurve.locks import key_place, lock_for, lock_kind, locked_corners
from typedcurve.places import is_place, stands_off

O, EAST, NORTH, CROSSED = (0, 0), (2, 0), (0, 1), ((6, 5), (-3, 5))
# With (15, 0) and O it makes a triangle of 13, 14 and 15.
UPPER = ((33, 5), (56, 5))
LENGTHS = [(1, 2), (2, 4), ((1, 2), (2, 3)), ([9, 2], (15, 2)), (3, 100), (99, 100)]
LITTLE = Fraction(1, 10 ** 30)


def locks(s, t):
    """Locks of frames of these lengths, and what kind they are."""
    s, t = fraction(s), fraction(t)
    apart, border = (t * t - s * s) / 4, (t + s) / 2
    found = [(t / 2, s / 2, "both")]
    # m + n is far, m - n is apart over far: so m m - n n is apart.
    for far in (border + LITTLE, border + 1, 2 * border, 100 * border):
        found.append(((far + apart / far) / 2, (far - apart / far) / 2, "crossed"))
    least = border - s / 2
    for far in (border - LITTLE, (border + least) / 2):
        if far * far > apart:
            found.append(((far + apart / far) / 2, (far - apart / far) / 2, "part"))
    for m, n, _ in list(found):
        for more, other in ((LITTLE, 0), (-LITTLE, 0), (0, LITTLE), (0, -LITTLE), (1, 0), (0, 1)):
            found.append((m + more, n + other, "none"))
    return [(number(m), number(n), kind) for m, n, kind in found if n > 0]


def has_room(o, a, c, b, m, n):
    """Whether the key has room, by the midpoints alone."""
    first, second, third, fourth = midpoints(o, a, c, b)
    (x, y), (u, v) = [
        [q - p for p, q in zip(fractions(one), fractions(other))] for one, other in ((first, third), (second, fourth))]
    aside = fraction(m) ** 2 - square(first, third) / 4
    if aside != fraction(n) ** 2 - square(second, fourth) / 4:
        return False
    # If both rows go the same way the key may stand aside, otherwise just in the middle.
    return aside >= 0 if x * v == y * u else aside == 0


class TestExamples(Case):
    def test_kinds(self):
        self.same(
            [lock_for(1, 2), lock_for(2, 4), lock_kind(1, 2, (13, 8), (11, 8)), lock_kind(1, 2, 1, (1, 2)),
             lock_kind(1, 2, (7, 8), (1, 8)), lock_kind(1, 2, 2, 1)],
            [((13, 8), (11, 8)), ((13, 4), (11, 4)), 'crossed', 'both', 'part', 'none'])

    def test_corners(self):
        o, east, north = O, EAST, NORTH
        self.same(
            [locked_corners(1, 2, (13, 8), (11, 8), o, north, east), locked_corners(1, 2, 1, (1, 2), o, north, east),
             locked_corners(1, 2, (7, 8), (1, 8), o, north, east)],
            [(((6, 5), (-3, 5)),), ((2, 1), ((6, 5), (-3, 5))), ()])

    def test_keys(self):
        self.same(
            [key_place(O, NORTH, ((6, 5), (-3, 5)), EAST, (13, 8), 1), key_place(O, NORTH, (2, 1), EAST, 1, -1)],
            [(((4, 5), (1, 10)), (1, 2), (589, 1600)), ((1, (1, 2)), (0, 0), 0)])
        self.refuses(Misfit("lock"), key_place, O, NORTH, (2, 1), EAST, (13, 8), 1)


class TestLockFor(Case):
    def test_its_lengths(self):
        for s, t in LENGTHS + [(1, 10 ** 40), (1, (10 ** 20 + 1, 10 ** 20))]:
            m, n = [fraction(part) for part in lock_for(s, t)]
            s, t = fraction(s), fraction(t)
            self.same([m, n], [(5 * t + 3 * s) / 8, (3 * t + 5 * s) / 8])
            self.same([m * m - n * n, m > t / 2], [(t * t - s * s) / 4, True])
        self.same(lock_for(t=2, s=[1, 2]), ((23, 16), (17, 16)))

    def test_errors(self):
        for bad in NO_LENGTHS:
            self.refuses(BadNumber("s"), lock_for, bad, bad)
            self.refuses(BadNumber("t"), lock_for, 1, bad)
        for s, t in ((1, 1), (2, 1), ((1, 2), (1, 2)), ((1, 2), (1, 3))):
            self.refuses(Misfit("lengths"), lock_for, s, t)


class TestLockKind(Case):
    def test_at_the_borders(self):
        for s, t in LENGTHS:
            self.same(lock_kind(s, t, *lock_for(s, t)), "crossed")
            kinds = set()
            for m, n, kind in locks(s, t):
                self.same(lock_kind(s, t, m, n), kind)
                self.same(lock_kind(n=n, m=m, t=t, s=s), kind)
                kinds.add(kind)
            self.same(sorted(kinds), ["both", "crossed", "none", "part"])

    def test_at_all_frames(self):
        for s, t, o, a, b in list(some_frames())[::4]:
            for m, n, kind in locks(s, t):
                for c in corners(s, t, o, a, b):
                    is_parallel = len(corners(s, t, o, a, b)) == 2 and c == corners(s, t, o, a, b)[0]
                    if kind != "part" or is_parallel or is_flat(o, a, b):
                        room = kind == "both" or (kind == "crossed" and not is_parallel)
                    else:
                        room = fraction(spread(o, a, c, b)[0]) <= fraction(m) ** 2
                    self.same(has_room(o, a, c, b, m, n), room)

    def test_flat_alone_is_none_of_them(self):
        # Where the key has room in a flat frame it has room in all crossed ones.
        for s, t in LENGTHS:
            a, b = gone(O, (1, 0), s), gone(O, (1, 0), t)
            for m, n, kind in locks(s, t):
                self.same(len(locked_corners(s, t, m, n, O, a, b)), 1 if kind in ("both", "crossed") else 0)

    def test_errors(self):
        for bad in NO_LENGTHS:
            self.refuses(BadNumber("s"), lock_kind, bad, bad, bad, bad)
            self.refuses(BadNumber("t"), lock_kind, 2, bad, bad, bad)
            self.refuses(BadNumber("m"), lock_kind, 2, 1, bad, bad)
            self.refuses(BadNumber("n"), lock_kind, 2, 1, 1, bad)
        for s, t in ((1, 1), (2, 1), ((1, 2), (1, 2)), ((1, 2), (1, 3))):
            self.refuses(Misfit("lengths"), lock_kind, s, t, 1, 1)


class TestLockedCorners(Case):
    def test_where_the_key_has_room(self):
        for s, t, o, a, b in list(some_frames())[::4]:
            found = corners(s, t, o, a, b)
            for m, n, _ in locks(s, t)[:12]:
                wanted = tuple(c for c in found if has_room(o, a, c, b, m, n))
                self.same(locked_corners(s, t, m, n, o, a, b), wanted)

    def test_each_kind(self):
        # The x of the frame of 1 and 2 is at most 7/8 where A stands at an angle of 3/5, but not where it is upright.
        slanted = ((3, 5), (4, 5))
        crossed = corners(1, 2, O, slanted, EAST)[1]
        for a, found in ((slanted, (crossed,)), (NORTH, ()), ((1, 0), ()), ((-1, 0), ())):
            self.same(locked_corners(1, 2, (7, 8), (1, 8), O, a, EAST), found)
        self.same(locked_corners(1, 2, 1, (1, 2), O, slanted, EAST), ((((13, 5), (4, 5)), crossed)))
        self.same(locked_corners(1, 2, 1, (1, 2), O, (-1, 0), EAST), ((1, 0),))
        self.same(locked_corners(1, 2, (13, 8), (11, 8), O, (1, 0), EAST), ((3, 0),))
        self.same(locked_corners(1, 2, 2, 1, O, NORTH, EAST), ())

    def test_on_the_row_itself(self):
        crossed = corners(13, 15, O, UPPER, (15, 0))[1]
        for far, found in ((7, (crossed,)), (7 + LITTLE, (crossed,)), (7 - LITTLE, ())):
            m, n = number((far + Fraction(14) / far) / 2), number((far - Fraction(14) / far) / 2)
            self.same([lock_kind(13, 15, m, n), locked_corners(13, 15, m, n, O, UPPER, (15, 0))], ["part", found])

    def test_by_name(self):
        self.same(
            locked_corners(b=[2, 0], a=[0, 1], o=[0, 0], n=[11, 8], m=[13, 8], t=2, s=1), (((6, 5), (-3, 5)),))

    def test_errors(self):
        for bad in NO_LENGTHS:
            self.refuses(BadNumber("s"), locked_corners, bad, bad, bad, bad, None, None, None)
            self.refuses(BadNumber("t"), locked_corners, 2, bad, bad, bad, None, None, None)
            self.refuses(BadNumber("m"), locked_corners, 2, 1, bad, bad, None, None, None)
            self.refuses(BadNumber("n"), locked_corners, 2, 1, 1, bad, None, None, None)
        for bad in NO_POINTS:
            self.refuses(BadPoint("o"), locked_corners, 2, 1, 1, 1, bad, bad, bad)
            self.refuses(BadPoint("a"), locked_corners, 2, 1, 1, 1, O, bad, bad)
            self.refuses(BadPoint("b"), locked_corners, 2, 1, 1, 1, O, O, bad)
        for told in ((2, 1, 1, 1, O, EAST, NORTH), (2, 2, 1, 1, O, EAST, EAST), (1, 2, 1, 1, O, EAST, NORTH),
                     (1, 2, 2, 1, O, (1, 1), EAST), (1, 3, 2, 1, O, NORTH, EAST)):
            self.refuses(Misfit("lengths"), locked_corners, *told)


class TestKeyPlace(Case):
    def check(self, o, a, c, b, m):
        """The key is as far from the midpoints as the bars tell, on the told side."""
        first, second, third, fourth = midpoints(o, a, c, b)
        longer = fraction(m) ** 2
        shorter = longer - (square(o, b) - square(o, a)) / 4
        places = [key_place(o, a, c, b, m, side) for side in (1, -1)]
        (x, y), (u, v) = fractions(first), fractions(third)
        middle = number((x + u) / 2), number((y + v) / 2)
        for place, side in zip(places, (1, -1)):
            self.same([is_place(place), place[2] == 0 or place[0] == middle], [True, True])
            for point, far in ((first, longer), (third, longer), (second, shorter), (fourth, shorter)):
                self.same(stands_off(place, (point, (0, 0), 0)), number(far))
            (p, q), (k, h) = fractions(place[0]), fractions(middle)
            i, j = place[1] if place[2] else (p - k, q - h)
            leftward = (u - x) * j - (v - y) * i
            self.same((leftward > 0) - (leftward < 0), 0 if longer == square(first, third) / 4 else side)
        return places

    def test_crossed_frames(self):
        for s, t, o, a, b in list(some_frames())[::4]:
            crossed = corners(s, t, o, a, b)[-1]
            for m, n, kind in locks(s, t):
                if has_room(o, a, crossed, b, m, n):
                    self.check(o, a, crossed, b, m)
                elif kind == "part":
                    self.refuses(Misfit("lock"), key_place, o, a, crossed, b, m, 1)

    def test_parallel_frames(self):
        for s, t, o, a, b in list(some_frames())[::4]:
            parallel, half = corners(s, t, o, a, b)[0], number(fraction(t) / 2)
            one, other = self.check(o, a, parallel, b, half)
            self.same([one, one[1:]], [other, ((0, 0), 0)])
            if not is_flat(o, a, b):
                for m in (number(fraction(t) / 2 + LITTLE), number(fraction(t) / 2 - LITTLE), t, lock_for(s, t)[0]):
                    self.refuses(Misfit("lock"), key_place, o, a, parallel, b, m, 1)

    def test_flat_frames(self):
        for a, c in (((1, 0), (3, 0)), ((-1, 0), (1, 0))):
            self.same(key_place(O, a, c, EAST, 1, 1)[1:], ((0, 0), 0))
            self.check(O, a, c, EAST, (13, 8))
            self.refuses(Misfit("lock"), key_place, O, a, c, EAST, (999, 1000), 1)

    def test_lengths_that_are_no_numbers(self):
        # Both lengths are roots, of 2 and of 8; x x is 8/5, and m m is to be above 3/2.
        a, b, parallel = (1, 1), (2, -2), (3, -1)
        crossed = mirrored(parallel, a, b)
        self.same(spread(O, a, crossed, b), ((8, 5), (1, 10)))
        for m in (2, (13, 10), 100):
            self.check(O, a, crossed, b, m)
        for m in (1, (5, 4), (1, 100)):
            self.refuses(Misfit("lock"), key_place, O, a, crossed, b, m, 1)
        for m in (1, 2, (5, 4), (7, 5), (99, 70)):
            self.refuses(Misfit("lock"), key_place, O, a, parallel, b, m, 1)

    def test_on_the_row_itself(self):
        # A B is 14, O C is 4: so x is 9/2.
        crossed = corners(13, 15, O, UPPER, (15, 0))[1]
        one, other = self.check(O, UPPER, crossed, (15, 0), (9, 2))
        self.same([one[1:], other], [((0, 0), 0), one])
        self.refuses(Misfit("lock"), key_place, O, UPPER, crossed, (15, 0), number(Fraction(9, 2) - LITTLE), 1)
        self.same(self.check(O, UPPER, crossed, (15, 0), number(Fraction(9, 2) + LITTLE))[0] == one, False)

    def test_by_name(self):
        self.same(
            key_place(side=-1, m=[13, 8], b=[2, 0], c=[[6, 5], [-3, 5]], a=[0, 1], o=[0, 0]),
            (((4, 5), (1, 10)), (-1, -2), (589, 1600)))
        self.same(key_place([0, 0], [0, 1], [2, 1], [2, 0], 1, 1), ((1, (1, 2)), (0, 0), 0))
        self.refuses(Misfit("lock"), key_place, [0, 0], [0, 1], [2, 1], [2, 0], [13, 8], 1)

    def test_no_frame(self):
        for o, a, c, b in ((O, NORTH, (2, 2), EAST), (O, NORTH, (1, 1), EAST), (O, (2, 0), (2, 1), (0, 1)),
                (O, O, EAST, EAST),
                           (O, (1, 0), (1, 1), (0, 1)), (O, O, O, O), (O, NORTH, EAST, EAST),
                           (O, NORTH, CROSSED, (3, 0)),
                           ((1, 0), NORTH, CROSSED, EAST), (O, (0, 2), (2, 2), (2, 0))):
            self.refuses(Misfit("frame"), key_place, o, a, c, b, (13, 8), 1)

    def test_one_pair_of_bars_that_fits(self):
        # |O A| is 1, |O B| is 2; of |C B| and |A C| one is right, the other is not.
        self.refuses(Misfit("frame"), key_place, O, NORTH, (3, 0), EAST, (13, 8), 1)
        self.refuses(Misfit("frame"), key_place, O, NORTH, (0, 3), EAST, (13, 8), 1)
        self.refuses(Misfit("frame"), key_place, O, NORTH, (0, -1), EAST, (13, 8), 1)

    def test_as_short_as_the_row(self):
        # A B and O C are both 4, the midpoints of A C and B O are one point: x x is 4, just what m m must be above.
        a, b = ((9, 5), (12, 5)), (5, 0)
        crossed = corners(3, 5, O, a, b)[1]
        self.same(spread(O, a, crossed, b), (4, 0))
        self.refuses(Misfit("lock"), key_place, O, a, crossed, b, 2, 1)
        self.check(O, a, crossed, b, number(2 + LITTLE))

    def test_too_short(self):
        # m m is to be above 3/4.
        for m in ((1, 2), (3, 4), number(Fraction(86602540378443864, 10 ** 17)), (1, 10 ** 40)):
            for c in (CROSSED, (2, 1)):
                self.refuses(Misfit("lock"), key_place, O, NORTH, c, EAST, m, 1)
        # Here m m is just (t t - s s) / 4, and n is 0.
        a, b = (3, 0), (0, 5)
        for c in corners(3, 5, O, a, b):
            self.refuses(Misfit("lock"), key_place, O, a, c, b, 2, 1)

    def test_errors(self):
        for bad in NO_POINTS:
            self.refuses(BadPoint("o"), key_place, bad, bad, bad, bad, None, None)
            self.refuses(BadPoint("a"), key_place, O, bad, bad, bad, None, None)
            self.refuses(BadPoint("c"), key_place, O, O, bad, bad, None, None)
            self.refuses(BadPoint("b"), key_place, O, O, O, bad, None, None)
        for bad in NO_LENGTHS:
            self.refuses(BadNumber("m"), key_place, O, O, O, O, bad, None)
        for bad in NO_SIDES:
            self.refuses(BadNumber("side"), key_place, O, O, O, O, 1, bad)


if __name__ == "__main__":
    unittest.main()
