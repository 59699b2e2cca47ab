"""[5]: texts of polynomials, and what is typed."""

import unittest
from fractions import Fraction
from random import Random

from helpers import Case, number
from typedcurve.errors import BadPoly, BadText, TooMany
from typedcurve.poly_texts import poly_text, read_poly, typed
from typedcurve.polys import Poly, value

NINES, ONE_MORE = "9" * 60, "1" + "0" * 60
NO_STRINGS = [None, True, 0, 7, 0.5, b"x", b"1 x", [], ["1", "x"], ("x",), {}, Poly(()), object()]
# No one of these is a number as it is written.
NO_ITEMS = [
    "", "+1", "01", "-0", "-01", "4/2", "3/1", "0/5", "1/-2", "1/0", "1/", "/2", "1.5", "--1", "1x", "x1", "X", "z",
    "xy", "**",
    "x^2", "\t", "\r", "1\r", "\u0661", "\u00b2", "\uff11", ONE_MORE, "-" + ONE_MORE, "1/" + ONE_MORE, ONE_MORE + "/3"]
TERMS = [
    ("0", []),
    ("7", [(0, 0, 7)]),
    ("-1/3", [(0, 0, (-1, 3))]),
    ("1 x", [(1, 0, 1)]),
    ("-1 y", [(0, 1, -1)]),
    ("1 x + 1 y", [(1, 0, 1), (0, 1, 1)]),
    ("1 x + 2 y y + -5/2", [(1, 0, 1), (0, 2, 2), (0, 0, (-5, 2))]),
    ("3 x x y + -1/2 y + 4", [(2, 1, 3), (0, 1, (-1, 2)), (0, 0, 4)]),
    ("1 x x + 1 x y y y + 1 x y y + 1 x y + 1 x + 1 y y y y",
     [(2, 0, 1), (1, 3, 1), (1, 2, 1), (1, 1, 1), (1, 0, 1), (0, 4, 1)]),
    ("2 x x x x x x + 1 x x x y y y + 9 y y y y y y", [(6, 0, 2), (3, 3, 1), (0, 6, 9)]),
    (f"{NINES} x + -{NINES} y + 1/{NINES}", [(1, 0, int(NINES)), (0, 1, -int(NINES)), (0, 0, (1, int(NINES)))]),
]


class TestExamples(Case):
    def test_texts(self):
        rough = Poly([(0, 1, (-1, 2)), [2, 1, 3], (0, 0, 4)])
        self.same(
            [poly_text(rough), poly_text(Poly([])), poly_text(Poly([(1, 0, 1)])),
            read_poly("3 x x y + -1/2 y + 4") == rough],
            ["3 x x y + -1/2 y + 4", "0", "1 x", True])

    def test_typed(self):
        self.same(
            [typed("x * x + y * y - 1").terms, poly_text(typed("( x + y ) ^ 2 - 1/2 * x * y")),
            typed("x ^ 0 - 1").terms,
             poly_text(typed("2 * x - -3"))],
            [((0, 0, -1), (0, 2, 1), (2, 0, 1)), "1 x x + 3/2 x y + 1 y y", (), "2 x + 3"])

    def test_errors(self):
        self.refuses(BadText(0, 2), typed, "x + * y")
        self.refuses(BadText(0, 4), typed, "x - ( y")
        self.refuses(BadText(0, 6), typed, "( x + y ) ^ 7")
        self.refuses(TooMany("degree", 6), typed, "x ^ 4 * y ^ 3")
        self.refuses(BadText(0, 5), read_poly, "1 x + 1 x x")


class TestTexts(Case):
    def test_there_and_back(self):
        for text, terms in TERMS:
            self.same(poly_text(Poly(terms)), text)
            self.same(read_poly(text).terms, tuple(sorted(terms)))
        self.same(poly_text(poly=Poly([(0, 1, 2)])), "2 y")
        self.same(read_poly(text="2 y").terms, ((0, 1, 2),))

    def test_all_degrees(self):
        random = Random(3)
        for degree in range(7):
            poly = Poly([
                (i, j, number(Fraction(random.choice([-3, 1, 2, 7]), random.randint(1, 9))))
                for i in range(degree + 1) for j in range(degree + 1 - i)])
            self.same(read_poly(poly_text(poly)).terms, poly.terms)

    def test_great_numbers(self):
        great = 10 ** 999
        self.same(poly_text(Poly([(1, 0, great), (0, 0, (great - 1, great))])), f"{great} x + {great - 1}/{great}")

    def test_poly(self):
        for bad in (None, "1 x", (), ((1, 0, 1),), 0, True, {}, object(), Poly):
            self.refuses(BadPoly("poly"), poly_text, bad)

    def test_no_strings(self):
        for bad in NO_STRINGS:
            self.refuses(BadText(0, 0), read_poly, bad)

    def test_zero(self):
        for text in ("0 ", "0 x", "0 + 1 x", "0 0", "0 + 0", "0 +", "0  "):
            self.refuses(BadText(0, 1), read_poly, text)
        for text, item in (
                ("1 x + 0", 3), ("1 x + 0 y", 3), ("-0", 0), ("00", 0), ("0/1", 0), ("0/5", 0), ("+ 0", 0),
                ("x + 0", 0), ("1 x + 0 + 2", 3),
                ("1 + 0", 2)):
            self.refuses(BadText(0, item), read_poly, text)

    def test_numbers(self):
        for bad in NO_ITEMS + ["x", "y", "+", "-", "("]:
            self.refuses(BadText(0, 0), read_poly, bad)
            self.refuses(BadText(0, 0), read_poly, bad + " x")
            self.refuses(BadText(0, 0), read_poly, bad + " x + 1")
            self.refuses(BadText(0, 3), read_poly, "1 x + " + bad)
            self.refuses(BadText(0, 3), read_poly, "1 x + " + bad + " y")

    def test_items_behind_a_number(self):
        for bad in NO_ITEMS + ["-", "*", "^", "(", ")", "1", "2", "1/2", "0"]:
            self.refuses(BadText(0, 1), read_poly, "1 " + bad)
            self.refuses(BadText(0, 2), read_poly, "1 x " + bad)
            self.refuses(BadText(0, 3), read_poly, "1 x y " + bad + " + 3")
            self.refuses(BadText(0, 5), read_poly, "1 x + 3 y " + bad + " y")

    def test_x_behind_y(self):
        self.refuses(BadText(0, 2), read_poly, "1 y x")
        self.refuses(BadText(0, 3), read_poly, "1 x y x")
        self.refuses(BadText(0, 4), read_poly, "1 x y y x y")
        self.refuses(BadText(0, 7), read_poly, "1 x x + 1 x y x")

    def test_seven_letters(self):
        for count in range(7):
            letters = " x" * count + " y" * (6 - count)
            self.same(read_poly("1" + letters).terms, ((count, 6 - count, 1),))
            for seventh in ("x", "y"):
                self.refuses(BadText(0, 7), read_poly, "1" + letters + " " + seventh)
                self.refuses(BadText(0, 7), read_poly, "1" + letters + " " + seventh + " + 1")
        self.refuses(BadText(0, 10), read_poly, "1 x + 1 y y y y y y y")
        self.refuses(BadText(0, 10), read_poly, "1 x + 1 y y y y y y y y + z")

    def test_items_left_out(self):
        text = "3 x x y + -1/2 y + 4"
        for at, wanted in enumerate([0, None, None, None, 4, 5, 7, 7, 8]):
            items = text.split(" ")
            del items[at]
            if wanted is None:
                self.assertNotEqual(read_poly(" ".join(items)), read_poly(text))
            else:
                self.refuses(BadText(0, wanted), read_poly, " ".join(items))

    def test_items_told_twice(self):
        text = "3 x x y + -1/2 y + 4"
        for at, wanted in enumerate([1, None, None, None, 5, 6, None, 8, 9]):
            items = text.split(" ")
            items.insert(at, items[at])
            if wanted is None:
                self.assertNotEqual(read_poly(" ".join(items)), read_poly(text))
            else:
                self.refuses(BadText(0, wanted), read_poly, " ".join(items))

    def test_items_put_in(self):
        text = "3 x x y + -1/2 y + 4"
        for at in range(10):
            for bad in ("z", "", "*", "4/2"):
                items = text.split(" ")
                items.insert(at, bad)
                self.refuses(BadText(0, at), read_poly, " ".join(items))
                items = text.split(" ")
                if at < 9:
                    items[at] = bad
                    self.refuses(BadText(0, at), read_poly, " ".join(items))

    def test_terms_that_do_not_descend(self):
        for text, item in (
                ("1 x + 1 x", 4), ("2 x + 1 x", 4), ("1 x + 2 x", 4), ("2 x + 1/2 x", 4), ("1 x + 1 x x", 5),
                ("1 + 1", 2), ("1 + 1 y", 3), ("1 + 1 x y", 4), ("1 y + 1 x", 4), ("1 y y + 1 y y", 6),
                ("1 x y + 1 x y y", 7), ("1 x + 1 y + 1 x", 7), ("1 x + 1 + 1 y", 6), ("1 x x x + 1 x x x y y", 10)):
            self.refuses(BadText(0, item), read_poly, text)
            for more in (" + 1", " +", " + 0", " z", " 5", " ", "  +", " -"):
                self.refuses(BadText(0, item), read_poly, text + more)
            self.refuses(BadText(0, item), read_poly, text + "\n1")
        self.refuses(BadText(0, 5), read_poly, "1 x + 1 x y x")
        self.refuses(BadText(0, 4), read_poly, "1 y + 1 x 3")

    def test_missing_items(self):
        self.refuses(BadText(0, 0), read_poly, "")
        self.refuses(BadText(0, 3), read_poly, "1 x +")
        self.refuses(BadText(0, 5), read_poly, "1 x y y +")
        self.refuses(BadText(0, 5), read_poly, "1 x + -1 +")
        self.refuses(BadText(0, 3), read_poly, "1 x + ")
        self.refuses(BadText(0, 2), read_poly, "1 +")

    def test_blanks(self):
        self.refuses(BadText(0, 0), read_poly, " 1 x")
        self.refuses(BadText(0, 1), read_poly, "1  x")
        self.refuses(BadText(0, 2), read_poly, "1 x ")
        self.refuses(BadText(0, 3), read_poly, "1 x +  1 y")

    def test_lines(self):
        for text, _ in TERMS:
            self.refuses(BadText(1, 0), read_poly, text + "\n")
            self.refuses(BadText(1, 0), read_poly, text + "\n" + text)
            self.refuses(BadText(0, 0), read_poly, "\n" + text)
        self.refuses(BadText(0, 3), read_poly, "1 x +\n1 y")
        self.refuses(BadText(0, 1), read_poly, "0 x\n1 y")

    def test_digits(self):
        self.same(read_poly(f"{NINES} x").terms, ((1, 0, int(NINES)),))
        self.same(read_poly(f"1/{NINES} x").terms, ((1, 0, (1, int(NINES))),))
        for long in (ONE_MORE, "-" + ONE_MORE, "1/" + ONE_MORE, ONE_MORE + "/3"):
            self.refuses(BadText(0, 0), read_poly, f"{long} x")
            self.refuses(BadText(0, 4), read_poly, f"1 x x + {long}")


class TestTyped(Case):
    def test_atoms(self):
        self.same(
            [typed("x").terms, typed("y").terms, typed("0").terms, typed("-3").terms, typed("5/2").terms,
            typed("( x )").terms],
            [((1, 0, 1),), ((0, 1, 1),), (), ((0, 0, -3),), ((0, 0, (5, 2)),), ((1, 0, 1),)])
        self.same(typed(text=f"-{NINES} * x").terms, ((1, 0, -int(NINES)),))

    def test_meaning(self):
        for text, wanted in (
                ("1 - 2 - 3", "-4"), ("1 - 2 + 3", "2"), ("1 + 2 * 3", "7"), ("2 * 3 + 1", "7"), ("2 * 3 ^ 2", "18"),
                ("2 ^ 3 * 2", "16"),
                ("1 + 2 ^ 3", "9"), ("( 1 + 2 ) * 3", "9"), ("( 2 * 3 ) ^ 2", "36"), ("1 - ( 2 - 3 )", "2"),
                ("-3 ^ 2", "9"), ("0 - 3 ^ 2", "-9"),
                ("2 - -3", "5"), ("2 + -3", "-1"), ("-2 * -3", "6"), ("x - x", "0"), ("0 * x", "0"), ("x ^ 1", "1 x"),
                ("x ^ 0", "1"),
                ("0 ^ 0", "1"), ("0 ^ 3", "0"), ("x ^ 6", "1 x x x x x x"), ("( x ^ 2 ) ^ 3", "1 x x x x x x"),
                ("2/3 ^ 2", "4/9"),
                ("( x - y ) * ( x + y )", "1 x x + -1 y y"), ("x * y * x", "1 x x y"), ("x - y - x", "-1 y"),
                ("3 * x - 2 * x", "1 x"),
                ("( ( 2 ) )", "2"), ("( x + 1 ) ^ 2 * 3", "3 x x + 6 x + 3"), ("2 * ( x + 1 ) ^ 2", "2 x x + 4 x + 2"),
                ("1/2 * x + 1/2 * x", "1 x"), ("x * ( y - 1 ) - y * ( x - 1 )", "-1 x + 1 y")):
            self.same(poly_text(typed(text)), wanted)

    def random_sum(self, random, deep):
        """A SUM as it is typed, and the same for Python."""
        ours, theirs = self.random_product(random, deep)
        for _ in range(random.randint(0, 3)):
            sign = random.choice("+-")
            more, python = self.random_product(random, deep)
            ours, theirs = f"{ours} {sign} {more}", f"{theirs} {sign} {python}"
        return ours, theirs

    def random_product(self, random, deep):
        ours, theirs = self.random_power(random, deep)
        for _ in range(random.choice([0, 0, 1, 2])):
            more, python = self.random_power(random, deep)
            ours, theirs = f"{ours} * {more}", f"{theirs} * {python}"
        return ours, theirs

    def random_power(self, random, deep):
        kind = random.randrange(5 if deep > 0 else 3)
        if kind == 0:
            fraction = Fraction(random.randint(-5, 5), random.randint(1, 3))
            ours, theirs = str(fraction), f"Fraction({fraction.numerator}, {fraction.denominator})"
        elif kind < 3:
            ours = theirs = "xy"[kind - 1]
        else:
            ours, theirs = self.random_sum(random, deep - 1)
            ours, theirs = f"( {ours} )", f"( {theirs} )"
        if random.randrange(4) == 0:
            power = random.randint(0, 3)
            return f"{ours} ^ {power}", f"{theirs} ** {power}"
        return ours, theirs

    def test_as_python_reckons(self):
        random = Random(77)
        done = 0
        for _ in range(800):
            ours, theirs = self.random_sum(random, 3)
            try:
                poly = typed(ours)
            except TooMany:
                continue
            done += 1
            for x, y in ((Fraction(2), Fraction(-3)), (Fraction(1, 2), Fraction(5, 3))):
                wanted = Fraction(eval(theirs, {"Fraction": Fraction, "x": x, "y": y}))
                self.same(value(poly, (number(x), number(y))), number(wanted))
        self.assertGreater(done, 300)


class TestTypedTexts(Case):
    def test_no_strings(self):
        for bad in NO_STRINGS:
            self.refuses(BadText(0, 0), typed, bad)

    def test_atoms(self):
        for bad in NO_ITEMS + ["+", "-", "*", "^", ")", "-x", "()", "x^2"]:
            self.refuses(BadText(0, 0), typed, bad)
            self.refuses(BadText(0, 0), typed, bad + " + x")
            self.refuses(BadText(0, 2), typed, "x + " + bad)
            self.refuses(BadText(0, 2), typed, "x * " + bad + " ( (")
            self.refuses(BadText(0, 3), typed, "x - ( " + bad)

    def test_items_behind_an_atom(self):
        for atom in ("x", "y", "1", "-2/3", "0"):
            for bad in NO_ITEMS + ["x", "y", "1", "-1", "0", "(", ")", "/"]:
                self.refuses(BadText(0, 1), typed, f"{atom} {bad}")
                self.refuses(BadText(0, 4), typed, f"( {atom} ) + {bad}" if bad == ")" else f"( {atom} - {atom} {bad}")
                self.refuses(BadText(0, 5), typed, f"{atom} + {atom} * {atom} {bad} y")

    def test_exponents(self):
        for exponent in range(7):
            self.same(typed(f"x ^ {exponent}").degree, exponent)
        for bad in NO_ITEMS + ["7", "-1", "10", "06", "1/2", "x", "y", "(", ")", "+", "-", "*", "^"]:
            self.refuses(BadText(0, 2), typed, "x ^ " + bad)
            self.refuses(BadText(0, 4), typed, "x + y ^ " + bad + " + x")
            self.refuses(BadText(0, 4), typed, "( x ) ^ " + bad)

    def test_items_behind_a_power(self):
        for bad in NO_ITEMS + ["^", "x", "2", "(", ")"]:
            self.refuses(BadText(0, 3), typed, "x ^ 2 " + bad)
            self.refuses(BadText(0, 3), typed, "x ^ 2 " + bad + " 2")
        self.refuses(BadText(0, 4), typed, "( x ^ 2 ^ 2 )")

    def test_brackets(self):
        self.refuses(BadText(0, 1), typed, "( )")
        self.refuses(BadText(0, 3), typed, "( x + )")
        self.refuses(BadText(0, 1), typed, "x )")
        self.refuses(BadText(0, 5), typed, "( x ) + y )")
        self.refuses(BadText(0, 3), typed, "( x ) ( y )")
        self.refuses(BadText(0, 3), typed, "( x ) y")
        self.refuses(BadText(0, 1), typed, "x ( y )")

    def test_forty_brackets(self):
        self.same(typed("( " * 40 + "x" + " )" * 40).terms, ((1, 0, 1),))
        self.same(typed("( " * 40 + "x + 1" + " )" * 40 + " - ( x )").terms, ((0, 0, 1),))
        self.same(typed("( " * 40 + "x" + " )" * 40 + " + " + "( " * 40 + "x" + " )" * 40).terms, ((1, 0, 2),))
        self.same(typed(" + ".join(["( x )"] * 50)).terms, ((1, 0, 50),))
        self.refuses(BadText(0, 40), typed, "( " * 41 + "x" + " )" * 41)
        self.refuses(BadText(0, 42), typed, "( " * 40 + "x + ( y )" + " )" * 40)
        self.refuses(BadText(0, 40), typed, "( " * 5000 + "x")
        self.same(typed("( " * 39 + "x + ( y ) - ( y )" + " )" * 39).terms, ((1, 0, 1),))

    def test_missing_items(self):
        for text in (
                "x +", "x -", "x *", "x ^", "(", "( x", "( x +", "( ( x )", "x * ( y ^", "x - ( y", "( x ) ^",
                "( x ^ 2", "( x + y ) * ( x"):
            self.refuses(BadText(0, len(text.split(" "))), typed, text)

    def test_blanks(self):
        self.refuses(BadText(0, 0), typed, "")
        self.refuses(BadText(0, 0), typed, " ")
        self.refuses(BadText(0, 0), typed, " x")
        self.refuses(BadText(0, 1), typed, "x ")
        self.refuses(BadText(0, 1), typed, "x  + y")
        self.refuses(BadText(0, 2), typed, "x +  y")
        self.refuses(BadText(0, 0), typed, "x+y")

    def test_lines(self):
        for text in ("x", "x + y", "( x )", "x ^ 2", "0", "x ^ 4 * y ^ 3", f"{NINES} + 1"):
            for more in ("\n", "\nx", "\n\n", "\n "):
                self.refuses(BadText(1, 0), typed, text + more)
        self.refuses(BadText(0, 0), typed, "\nx")
        self.refuses(BadText(0, 2), typed, "x +\ny")
        self.refuses(BadText(0, 1), typed, "x \ny")
        self.refuses(BadText(0, 2), typed, "( x\n)")

    def test_each_refused_item_is_the_first(self):
        """What stands ahead of the item can be completed, and with the item it cannot."""
        random = Random(9)
        ends = [more + " )" * depth for more in ("", " x", " 0") for depth in range(6)]
        refused = 0
        for _ in range(1500):
            items = [random.choice("x y 1 -1/2 0 7 + - * ^ ^ ( ) + * + 2".split(" ")) for _ in range(random.randint(1,
                7))]
            try:
                typed(" ".join(items))
            except TooMany:
                pass
            except BadText as error:
                refused += 1
                self.assertEqual(error.line, 0)
                self.assertTrue(self.can_be_completed(items[:error.item], ends))
                if error.item == len(items):
                    continue
                self.assertFalse(self.can_be_completed(items[:error.item + 1], ends))
        self.assertGreater(refused, 500)

    def can_be_completed(self, items, ends):
        for end in ends:
            try:
                typed((" ".join(items) + end).strip(" "))
                return True
            except TooMany:
                return True
            except BadText:
                pass
        return False


class TestTooMany(Case):
    def degree(self, text):
        self.refuses(TooMany("degree", 6), typed, text)

    def digits(self, text):
        self.refuses(TooMany("digits", 60), typed, text)

    def test_degree(self):
        self.same(typed("x ^ 3 * y ^ 3").degree, 6)
        self.same(typed("( x + y ) ^ 6").degree, 6)
        self.same(typed("( x ^ 3 + y ) ^ 2").degree, 6)
        self.same(typed("x * x * x * y * y * y * 5").degree, 6)
        self.same(typed("0 * ( x ^ 6 ) * 0 * y * ( x ^ 6 )").terms, ())
        self.same(typed("( x - x ) * x ^ 6 * y").terms, ())
        self.same(typed("( x - x ) ^ 6").terms, ())
        self.degree("x ^ 6 * y")
        self.degree("y * x ^ 6")
        self.degree("x * x * x * y * y * y * y")
        self.degree("( x ^ 2 ) ^ 4")
        self.degree("( x ^ 4 ) ^ 2")
        self.degree("x ^ 4 * y ^ 3 * 0")
        self.degree("x ^ 4 * y ^ 3 - x ^ 4 * y ^ 3")
        self.degree("( ( x + 1 ) * ( y ^ 6 ) ) ^ 0")
        self.degree("1 + x * ( x ^ 6 - 1 )")

    def test_digits(self):
        self.same(typed(f"{NINES} + 0").terms, ((0, 0, int(NINES)),))
        self.same(typed(f"{NINES} - 1").terms, ((0, 0, int(NINES) - 1),))
        self.same(typed(f"0 - {NINES}").terms, ((0, 0, -int(NINES)),))
        self.same(typed(f"1/{NINES} * x").terms, ((1, 0, (1, int(NINES))),))
        self.digits(f"{NINES} + 1")
        self.digits(f"-{NINES} - 1")
        self.digits(f"{NINES} * 2")
        self.digits(f"{NINES} * x + x")
        self.digits(f"1/{NINES} * 1/2")
        self.digits(f"1/{NINES} + 1/{int(NINES) - 1}")
        self.digits(f"{10 ** 10} ^ 6")
        self.same(typed(f"{10 ** 10 - 1} ^ 6").terms, ((0, 0, (10 ** 10 - 1) ** 6),))
        self.digits(f"1/{10 ** 10} ^ 6")
        self.digits(f"( {NINES} * x + y ) ^ 2")
        self.digits(f"{NINES} + 1 - 1")
        self.digits(f"( {NINES} + 1 ) * 0")
        self.digits(f"0 * ( {NINES} + 1 )")
        self.digits(f"( {NINES} * 10 ) ^ 0")

    def test_each_product_of_a_power(self):
        # The second product is too great in digits, the third one in degree.
        self.digits(f"( {10 ** 40} * x ^ 3 ) ^ 3")
        self.degree(f"( {10 ** 25} * x ^ 3 ) ^ 3")
        # Here the second product is too great in both.
        self.degree(f"( {10 ** 40} * x ^ 4 ) ^ 2")

    def test_both_in_one_product(self):
        self.degree(f"{NINES} * ( x ^ 4 ) * ( 10 * y ^ 3 )")

    def test_the_first_one(self):
        self.digits(f"{NINES} + 1 + x ^ 4 * y ^ 3")
        self.degree(f"x ^ 4 * y ^ 3 + {NINES} + 1")
        self.digits(f"{NINES} * 2 * x ^ 6 * y")
        self.degree(f"x ^ 6 * y * {NINES} * 2")
        self.digits(f"2 * {NINES} - x ^ 6 * y")
        self.degree(f"x ^ 6 * y - 2 * {NINES}")
        self.degree(f"1 + ( x ^ 4 ) ^ 2 * {10 ** 30} ^ 3")
        self.digits(f"1 + {10 ** 30} ^ 3 * ( x ^ 4 ) ^ 2")

    def test_brackets_ahead_of_those_around(self):
        self.digits(f"x ^ 4 * ( {NINES} + 1 + y ^ 3 )")
        self.degree(f"{NINES} + ( 1 + x ^ 4 * y ^ 3 )")
        self.degree(f"{NINES} * ( 2 - x * y ^ 6 )")
        self.digits(f"x ^ 6 * ( y * {NINES} * 2 )")
        self.digits(f"( ( {NINES} + 1 ) * x ^ 4 ) * y ^ 3")
        self.degree(f"( {NINES} - ( x ^ 4 * y ^ 3 ) + 1 ) ^ 2")
        self.digits(f"( x ^ 4 * ( {NINES} * 2 ) ) ^ 2")


if __name__ == "__main__":
    unittest.main()
