"""[15]: the desk."""

import unittest
from itertools import permutations
from random import Random
from unittest.mock import patch

from helpers import Case, number
from typedcurve.arms import Every, Nowhere, other_arm
from typedcurve.builds import machine_for
from typedcurve.desk import Desk
from typedcurve.errors import BadLine, BadText, Misfit, TooMany
from typedcurve.machines import Machine, cut_list
from typedcurve.numbers import number_text, read_number
from typedcurve.plans import count_for
from typedcurve.poly_texts import poly_text, typed
from typedcurve.polys import Poly, value
from typedcurve.sketches import sketch
from typedcurve.stands import pen_at, stands
from typedcurve.turns import by_half
from typedcurve.ways import way_at

CIRCLE = "curve x * x + y * y - 1"
ASKS = ["count", "cut", "pen", "off", "way", "arm 0", "arm -7/3", "sketch 3"]
NEED_CURVE = ["count", "cut", "off", "way", "arm 0", "sketch 3", "stand 0 1"]
# No one of these is a number's text.
NO_NUMBERS = ["", "x", "+1", "01", "-0", "1.0", "4/2", "3/1", "0/5", "1/0", "1/-2", "1/2/3", "--1", "1e3", "-", "/",
    "1/", "/2", "1" * 61, "1/" + "3" * 61, "\u0661", "1\t", "None", "-01/2"]
# Lines, and the index of the first item that cannot stand, or that is missing.
WRONG = [
    ("", 0), ("x", 0), ("Curve x", 0), ("curves x", 0), ("count ", 1), ("count 1", 1), ("cut x", 1), ("cut cut", 1),
    ("pen 1", 1), ("off ", 1), ("way 1 2", 1), (" count", 0), ("log", 0), ("back", 0), ("stands 0 0", 0), ("-", 0),
    ("radius", 1), ("radius ", 1), ("radius 0", 1), ("radius -1", 1), ("radius -1/2", 1), ("radius 1 2", 2),
    ("radius 1 ", 2), ("radius  1", 1), ("radius x y", 1),
    ("stand", 1), ("stand ", 1), ("stand 0", 2), ("stand 0 ", 2), ("stand x", 1), ("stand x 0", 1), ("stand 0 x", 2),
    ("stand 0 0 0", 3), ("stand 0 0 ", 3), ("stand  0 0", 1), ("stand 0  0", 2), ("stand x x x", 1),
    ("arm", 1), ("arm ", 1), ("arm x", 1), ("arm 0 0", 2), ("arm 2/4", 1),
    ("sketch", 1), ("sketch ", 1), ("sketch 0", 1), ("sketch 41", 1), ("sketch -1", 1), ("sketch 1/2", 1),
    ("sketch 1 1", 2), ("sketch 3/1", 1), ("sketch x", 1), ("sketch 0 0", 1),
    ("curve", 1), ("curve ", 1), ("curve +", 1), ("curve x +", 3), ("curve x y", 2), ("curve x + * y", 3),
    ("curve x - ( y", 5), ("curve ( x + y ) ^ 7", 7), ("curve x ^ -1", 3), ("curve  x", 1), ("curve x ", 2),
    ("curve 4/2", 1), ("curve z", 1), ("curve ) x", 1), ("curve x ^ 2 ^ 2", 4), ("curve x = 0", 2),
]
NO_STRINGS = [None, True, 0, 7, 0.5, b"count", [], ["count"], ("count",), ("stand", 0, 0), {}, object(), Desk, Poly(())]


def fresh(*lines):
    """A desk that was told some lines."""
    desk = Desk()
    for line in lines:
        desk.told(line)
    return desk


def kept(desk):
    curve = None if desk.curve is None else desk.curve.terms
    return curve, desk.radius, desk.arms, desk.log


def wanted_answer(desk, line):
    """What the desk answers to an ask, by the functions behind."""
    word, *rest = line.split(" ")
    curve, radius, arms = desk.curve, desk.radius, desk.arms
    if word == "count":
        return "{} {}".format(*count_for(curve, radius))
    if word == "cut":
        rows = cut_list(machine_for(curve, radius))
        return " , ".join(f"{number_text(length)} {many}" for length, many in rows)
    if word == "pen":
        return " ".join(number_text(part) for part in pen_at(radius, *arms))
    if word == "off":
        return number_text(value(curve, pen_at(radius, *arms)))
    if word == "way":
        way = way_at(curve, radius, *arms)
        return " ".join(number_text(part) for part in way.parts) if way else "knot"
    if word == "arm":
        paper = other_arm(curve, radius, by_half(read_number(rest[0])), 1)
        if paper == Every():
            return "all"
        return "0" if paper == Nowhere() else str(len(paper.boxes) + paper.back)
    return "|".join(sketch(curve, radius, int(rest[0])))


class DeskCase(Case):
    def refuses_line(self, error, desk, line):
        """The desk raises BadLine around this error, and stays as it is."""
        before = kept(desk)
        with self.assertRaises(BadLine) as raised:
            desk.told(line)
        self.assertIs(type(raised.exception), BadLine)
        inner = raised.exception.error
        self.assertIs(type(inner), type(error))
        self.assertEqual(vars(inner), vars(error))
        self.same(kept(desk), before)

    def refuses_text(self, error, desk, line):
        before = kept(desk)
        self.refuses(error, desk.told, line)
        self.same(kept(desk), before)


class TestExamples(DeskCase):
    def test_all(self):
        desk = Desk()
        self.same(
            [desk.told(line) for line in (
                CIRCLE, "radius 5/6", "stand 0 -1/2", "pen", "off", "way", "count", "arm 0")],
            ["1 x x + 1 y y + -1", "-", "yes", "3/5 -4/5", "0", "1 1 8/5 6/5", "64 50", "2"])
        self.same(
            [desk.told("sketch 2"), desk.told("stand 0 0"), desk.told("off"), desk.log[1:], desk.back(),
             desk.told("pen")],
            ["  +  | +-+ |+---+| +-+ |  +  ", "no", "16/9", ("radius 5/6", "stand 0 -1/2", "stand 0 0"), "stand 0 0",
             "3/5 -4/5"])
        other = desk.twin()
        self.same(
            [other == desk, other.told("curve x"), other.told("radius 1"), other.told("cut"), other == desk,
             desk.radius],
            [True, "1 x", "-", "1 7 , 11/8 4 , 3/2 1 , 13/8 4 , 2 4 , 11/4 4 , 3 4 , 13/4 4 , 4 6 , 9/2 2 , 45/8 2 , "
             "51/8 2 , 15/2 2", False, (5, 6)])
        self.refuses_text(BadText(0, 3), desk, "curve x +")
        self.refuses_text(BadText(0, 2), desk, "stand 1")
        self.refuses_text(BadText(0, 1), desk, "radius 0")
        self.refuses(Misfit("log"), Desk().back)
        self.refuses_line(Misfit("curve"), Desk(), "count")


class TestDeeds(DeskCase):
    def test_at_first(self):
        desk = Desk()
        self.same(kept(desk), (None, 1, None, ()))

    def test_curves(self):
        for text in ("x", "0", "7/2", "( x + y ) ^ 2 - 1/2 * x * y", "2 * x - -3", "x ^ 3 - y ^ 2", "( ( x ) )"):
            desk = Desk()
            self.same(desk.told("curve " + text), poly_text(typed(text)))
            self.same(kept(desk), (typed(text).terms, 1, None, ("curve " + text,)))
            self.assertIs(type(desk.curve), Poly)

    def test_radii(self):
        for text in ("1", "5/6", "7", "1/" + "9" * 60, "9" * 60):
            desk = Desk()
            self.same(desk.told("radius " + text), "-")
            self.same(kept(desk), (None, read_number(text), None, ("radius " + text,)))

    def test_stands(self):
        curves = ((CIRCLE, "5/6"), ("curve x", "1"), ("curve y - x", "7/3"), ("curve 0", "2"), ("curve 1", "2"))
        halves = (("0", "-1/2"), ("0", "1"), ("1", "0"), ("-3/4", "4/3"), ("2", "2"), ("0", "0"), ("1", "-1"))
        for curve, radius in curves:
            desk = fresh(curve, "radius " + radius)
            for one, other in halves:
                log = desk.log
                answer = desk.told(f"stand {one} {other}")
                arms = (by_half(read_number(one)), by_half(read_number(other)))
                self.same(desk.arms, arms)
                self.same(answer, "yes" if stands(desk.curve, desk.radius, *arms) else "no")
                self.same(desk.log, log + (f"stand {one} {other}",))

    def test_arms_that_stay(self):
        desk = fresh("curve x", "stand 0 1", "radius 2", "curve y", "radius 5")
        self.same(kept(desk), (((0, 1, 1),), 5, ((1, 0), (0, 1)), desk.log))
        self.same(len(desk.log), 5)


class TestAsks(DeskCase):
    def test_in_any_order(self):
        deeds = [CIRCLE, "radius 5/6", "stand 0 -1/2"]
        for order in permutations(deeds):
            if order.index(CIRCLE) < order.index("stand 0 -1/2"):
                desk = fresh(*order)
                for line in ASKS:
                    if desk.told("off") == "0" or line != "way":
                        self.same(desk.told(line), wanted_answer(desk, line))
                self.same(desk.log, order)

    def test_against_the_functions(self):
        random, met = Random(4), set()
        curves = ["curve x", CIRCLE, "curve y - x", "curve 0", "curve x ^ 2 + y ^ 2 - 2 * x", "curve x * y", "curve 5",
            "curve 2 * y ^ 2 - x ^ 3 + 1/3"]
        desk = fresh("curve x", "stand 0 1")
        for _ in range(250):
            half = number_text(number(random.randint(-4, 4)) if random.randrange(2) else (random.choice([-3, 1, 5]), 4))
            desk.told(random.choice(
                curves + ["radius 1", "radius 5/6", f"stand {half} 1", f"stand 0 {half}", "stand 0 -1/2"]))
            for line in ASKS:
                if line == "way" and desk.told("off") != "0":
                    self.refuses_line(Misfit("pose"), desk, "way")
                    continue
                log, answer = desk.log, desk.told(line)
                self.assertIs(type(answer), str)
                self.same(answer, wanted_answer(desk, line))
                self.same(desk.log, log)
                met.add(line.split(" ")[0] + (" " + answer if answer in ("knot", "all", "0", "1", "2") else ""))
        self.assertLessEqual({"way", "way knot", "arm all", "arm 1", "arm 2", "off 0"}, met)

    def test_many_arms(self):
        # x is 0 with both arms opposite alone: the second one straight back has no half, and counts.
        self.same(fresh("curve x").told("arm 0"), "1")
        self.same(fresh("curve x - 3").told("arm 0"), "0")
        self.same(fresh("curve x ^ 2 + y ^ 2 - 2 * x").told("arm 0"), "all")
        self.same(fresh("curve 0").told("arm -1/7"), "all")
        self.same(fresh("curve 1").told("arm 5"), "0")
        self.same(fresh("curve x * ( x - 1 )").told("arm 0"), "3")
        self.same(fresh("curve 2 * x - 1").told("arm 1"), "2")

    def test_ways(self):
        self.same(fresh("curve y - x", "stand 0 1").told("way"), "1 1 0 0")
        self.same(fresh("curve x", "stand 0 1").told("way"), "knot")
        self.same(fresh("curve 25 * y - 48", "radius 2", "stand 0 1/2").told("way"), "7 25 -96 0")
        self.refuses_line(Misfit("pose"), fresh("curve x", "stand 0 0"), "way")

    def test_pens_without_a_curve(self):
        desk = fresh("curve x", "radius 5/6", "stand 0 -1/2")
        desk.back()
        self.refuses_line(Misfit("arms"), desk, "pen")
        self.same(fresh("curve x", "stand 0 0", "radius 1/3").told("pen"), "2/3 0")


class TestWhatIsMissing(DeskCase):
    def test_without_a_curve(self):
        for desk in (Desk(), fresh("radius 2")):
            for line in NEED_CURVE:
                self.refuses_line(Misfit("curve"), desk, line)
            self.refuses_line(Misfit("arms"), desk, "pen")
            self.same(desk.told("radius 3"), "-")

    def test_without_arms(self):
        desk = fresh("curve x", "radius 2")
        for line in ("pen", "off", "way"):
            self.refuses_line(Misfit("arms"), desk, line)
        for line in ("count", "cut", "arm 0", "sketch 1"):
            self.same(desk.told(line), wanted_answer(desk, line))

    def test_a_wrong_line_ahead_of_it(self):
        for line, item in (("count 1", 1), ("stand 0", 2), ("sketch 41", 1), ("off x", 1)):
            self.refuses_text(BadText(0, item), Desk(), line)


class TestTexts(DeskCase):
    def test_each_wrong_item(self):
        for desk in (Desk(), fresh(CIRCLE, "radius 5/6", "stand 0 -1/2")):
            for line, item in WRONG:
                self.refuses_text(BadText(0, item), desk, line)
                self.refuses_text(BadText(0, item), desk, line + "\ncount")

    def test_no_numbers(self):
        desk = fresh("curve x")
        for bad in NO_NUMBERS:
            self.refuses_text(BadText(0, 1), desk, f"radius {bad}")
            self.refuses_text(BadText(0, 1), desk, f"arm {bad}")
            self.refuses_text(BadText(0, 1), desk, f"sketch {bad}")
            self.refuses_text(BadText(0, 1), desk, f"stand {bad} 0")
            self.refuses_text(BadText(0, 2), desk, f"stand 0 {bad}")
            if bad != "x":
                self.refuses_text(BadText(0, 3), desk, f"curve y + {bad}")

    def test_lines_more_than_one(self):
        for desk in (Desk(), fresh("curve x")):
            for line in ["curve x", "radius 2", "stand 0 0"] + ASKS:
                for more in ("\n", "\n\n", "\nx", "\n" + line):
                    self.refuses_text(BadText(1, 0), desk, line + more)
            self.refuses_text(BadText(0, 0), desk, "\ncount")
            self.refuses_text(BadText(0, 1), desk, "curve\nx")

    def test_no_strings(self):
        for desk in (Desk(), fresh("curve x")):
            for bad in NO_STRINGS:
                self.refuses_text(BadText(0, 0), desk, bad)

    def test_brackets(self):
        deep = "( " * 40 + "x" + " )" * 40
        self.same(fresh().told("curve " + deep), "1 x")
        self.refuses_text(BadText(0, 41), Desk(), "curve ( " + deep + " )")

    def test_sketches(self):
        desk = fresh("curve x")
        for many in (1, 2, 40):
            self.same(desk.told(f"sketch {many}"), "|".join(sketch(typed("x"), 1, many)))


class TestErrorsBehind(DeskCase):
    def test_too_many(self):
        for desk in (Desk(), fresh(CIRCLE, "stand 0 0")):
            self.refuses_line(TooMany("degree", 6), desk, "curve x ^ 4 * y ^ 3")
            self.refuses_line(TooMany("degree", 6), desk, "curve ( x * y ) ^ 4")
            self.refuses_line(TooMany("digits", 60), desk, "curve " + "9" * 60 + " + 1")
            self.refuses_text(BadText(0, 9), desk, "curve x ^ 4 * y ^ 3 +")
            self.refuses_text(BadText(1, 0), desk, "curve x ^ 4 * y ^ 3\n")

    def test_room(self):
        # As no machine is too great, the most is told as less here: the machine of x has 60 joints.
        desk = fresh("curve x", "stand 0 1")
        with patch.object(Machine, "MOST", 59):
            self.refuses_line(TooMany("joints", 59), desk, "cut")
            self.same([desk.told("count"), desk.told("off")], ["60 46", "0"])

    def test_a_line_that_is_not_done(self):
        desk = fresh(CIRCLE, "radius 5/6", "stand 0 -1/2")
        answers = [desk.told(line) for line in ASKS]
        twin = desk.twin()
        for line, item in WRONG:
            self.refuses_text(BadText(0, item), desk, line)
        self.same(([desk.told(line) for line in ASKS], desk == twin), (answers, True))


class TestBack(DeskCase):
    LINES = ["radius 2", "curve x", "stand 0 1", "radius 5/6", CIRCLE, "stand 0 -1/2", "stand 1 1", "curve y",
        "radius 1"]

    def test_back_to_the_beginning(self):
        desk, states = Desk(), []
        for line in self.LINES:
            states.append(kept(desk))
            desk.told(line)
        for line in self.LINES[::-1]:
            self.same(desk.back(), line)
            self.same(kept(desk), states.pop())
        self.refuses(Misfit("log"), desk.back)
        self.same(kept(desk), (None, 1, None, ()))
        self.refuses_line(Misfit("curve"), desk, "count")

    def test_asks_are_not_taken_back(self):
        desk = fresh("curve x", "stand 0 1")
        for line in ASKS:
            desk.told(line)
        self.same([desk.back(), desk.back()], ["stand 0 1", "curve x"])

    def test_a_deed_told_again(self):
        desk = fresh("curve x", "curve x")
        self.same((desk.back(), desk.curve == typed("x"), desk.log), ("curve x", True, ("curve x",)))

    def test_on_again_from_there(self):
        desk = fresh(*self.LINES)
        for _ in range(4):
            desk.back()
        for line in self.LINES[-4:]:
            desk.told(line)
        self.same(desk == fresh(*self.LINES), True)
        self.same(kept(desk), kept(fresh(*self.LINES)))


class TestTwins(DeskCase):
    def test_apart(self):
        desk = fresh(*TestBack.LINES)
        twin = desk.twin()
        self.assertIsNot(twin, desk)
        self.same((twin == desk, kept(twin)), (True, kept(desk)))
        before = kept(desk)
        twin.told("radius 7")
        twin.told("stand 0 0")
        self.same((kept(desk), twin == desk), (before, False))
        self.same([twin.back(), twin.back(), twin == desk], ["stand 0 0", "radius 7", True])
        desk.back()
        self.same((twin == desk, kept(twin)), (False, before))
        for line in TestBack.LINES[::-1]:
            self.same(twin.back(), line)
        self.same(kept(Desk().twin()), kept(Desk()))

    def test_told_the_log(self):
        desk = fresh(CIRCLE, "radius 5/6", "stand 0 0", "stand 0 -1/2")
        other = fresh(*desk.log)
        self.same([other == desk, other.log], [True, desk.log])
        self.same([other.told(line) for line in ASKS], [desk.told(line) for line in ASKS])
        self.same(kept(other), kept(desk))

    def test_equal_logs(self):
        self.same(
            [Desk() == Desk(), Desk() != Desk(), fresh("curve x") == fresh("curve x"),
             fresh("curve x") == fresh("curve 1 * x"), fresh("curve x", "radius 1") == fresh("curve x"),
             fresh("curve x", "radius 2") == fresh("radius 2", "curve x")],
            [True, False, True, False, False, False])
        for other in (None, (), 0, "desk", object(), Desk):
            self.same([Desk() == other, Desk() != other], [False, True])

    def test_by_name(self):
        self.same(Desk().told(line="curve x"), "1 x")


if __name__ == "__main__":
    unittest.main()
