"""[2]: arithmetic of numbers, roots, and the texts of numbers."""

import unittest
from fractions import Fraction
from random import Random

from helpers import NO_NUMBERS, Case, fraction, number
from typedcurve.errors import BadNumber, BadText, Misfit
from typedcurve.numbers import (
    is_below, minus, number_text, plus, quotient, read_number, root_of, sign_of, times)

NINES = "9" * 60
ONE_MORE = "1" + "0" * 60
FEW = [number(Fraction(p, q)) for p in range(-6, 7) for q in (1, 2, 3, 4, 6)]


def great_numbers():
    """Numbers with 40 digits above and below the line."""
    random = Random(2)
    found = [0, 1, -1, 10 ** 40 - 1, 1 - 10 ** 40]
    for _ in range(12):
        found.append(number(Fraction(random.randint(-10 ** 40, 10 ** 40), random.randint(10 ** 39, 10 ** 40 - 1))))
        found.append(random.randint(-10 ** 40, 10 ** 40))
    return found


class TestExamples(Case):
    def test_arithmetic(self):
        self.same(
            [plus((1, 2), (1, 3)), minus(1, (1, 2)), times([2, 3], (3, 2)), quotient(one=(1, 2), other=(-1, 4)),
             minus((7, 2), (7, 2))],
            [(5, 6), (1, 2), 1, -2, 0])

    def test_order_and_roots(self):
        self.same(
            [is_below((1, 3), (1, 2)), is_below(-1, -1), sign_of((-1, 7)), root_of((9, 4)), root_of(2), root_of((4, 3)),
             root_of(0)],
            [True, False, -1, (3, 2), None, None, 0])

    def test_texts(self):
        self.same(
            [number_text((-7, 2)), number_text([3, 5]), read_number("-7/2"), read_number("12")],
            ["-7/2", "3/5", (-7, 2), 12])

    def test_errors(self):
        self.refuses(Misfit("other"), quotient, 1, 0)
        self.refuses(BadNumber("one"), plus, (2, 4), True)
        self.refuses(BadNumber("number"), root_of, -4)
        self.refuses(BadText(0, 0), read_number, "4/2")
        self.refuses(BadText(0, 1), read_number, "1 2")
        self.refuses(BadText(1, 0), read_number, "1\n")


class TestArithmetic(Case):
    def pair_is_right(self, one, other):
        left, right = fraction(one), fraction(other)
        self.same(plus(one, other), number(left + right))
        self.same(minus(one, other), number(left - right))
        self.same(times(one, other), number(left * right))
        self.same(is_below(one, other), left < right)
        if right == 0:
            self.refuses(Misfit("other"), quotient, one, other)
        else:
            self.same(quotient(one, other), number(left / right))

    def test_few(self):
        for one in FEW:
            for other in FEW:
                self.pair_is_right(one, other)

    def test_great(self):
        for one in great_numbers():
            for other in great_numbers():
                self.pair_is_right(one, other)

    def test_lists_and_names(self):
        self.same(plus([1, 2], 0), (1, 2))
        self.same(minus(other=[1, 2], one=[-1, 3]), (-5, 6))
        self.same(times(one=[1, 2], other=[3, 5]), (3, 10))
        self.same(quotient([1, 2], [3, 5]), (5, 6))
        self.same(is_below(one=[1, 2], other=[3, 5]), True)
        self.same(times([1, 2], 1), (1, 2))
        self.same(minus([5, 3], 0), (5, 3))

    def test_lists_stay_as_they_were(self):
        one, other = [1, 2], [-3, 4]
        for function in (plus, minus, times, quotient, is_below):
            function(one, other)
        self.same([one, other], [[1, 2], [-3, 4]])

    def test_errors(self):
        for function in (plus, minus, times, quotient, is_below):
            for value in NO_NUMBERS:
                self.refuses(BadNumber("one"), function, value, 1)
                self.refuses(BadNumber("other"), function, (1, 2), value)
                self.refuses(BadNumber("one"), function, value, value)
                self.refuses(BadNumber("one"), function, other=0, one=value)

    def test_nothing_is_divided_by_0(self):
        for one in (0, 1, (-1, 2)):
            self.refuses(Misfit("other"), quotient, one, 0)
        self.refuses(BadNumber("one"), quotient, (2, 2), 0)
        self.refuses(BadNumber("other"), quotient, 1, (0, 2))


class TestSigns(Case):
    def test_signs(self):
        for value in FEW + great_numbers():
            self.same(sign_of(value), (fraction(value) > 0) - (fraction(value) < 0))
        self.same([sign_of([1, 2]), sign_of(number=[-1, 2])], [1, -1])

    def test_errors(self):
        for value in NO_NUMBERS:
            self.refuses(BadNumber("number"), sign_of, value)


class TestRoots(Case):
    def test_squares(self):
        for p in range(0, 40):
            for q in range(1, 12):
                root = Fraction(p, q)
                self.same(root_of(number(root * root)), number(root))

    def test_no_squares(self):
        squares = {Fraction(p, q) ** 2 for p in range(0, 60) for q in range(1, 60)}
        for p in range(0, 40):
            for q in range(1, 40):
                if Fraction(p, q) not in squares:
                    self.assertIsNone(root_of(number(Fraction(p, q))))

    def test_only_one_part_is_a_square(self):
        for value in ((4, 3), (3, 4), (9, 2), (2, 9), (1, 2), (5, 4)):
            self.assertIsNone(root_of(value))

    def test_great_numbers(self):
        root = Fraction(10 ** 40 + 1, 10 ** 39 + 7)
        self.same(root_of(number(root * root)), number(root))
        square = (10 ** 60 + 39) ** 2
        self.same(root_of(square), 10 ** 60 + 39)
        for near in (square - 1, square + 1, (square + 2, square), (square, square + 1)):
            self.assertIsNone(root_of(near))
        self.same(root_of((1, square)), (1, 10 ** 60 + 39))

    def test_lists_and_names(self):
        self.same([root_of([9, 4]), root_of(number=[1, 4]), root_of(0), root_of(1)], [(3, 2), (1, 2), 0, 1])

    def test_errors(self):
        for value in (-1, -4, (-1, 4), [-9, 4], (-1, 2), -10 ** 80):
            self.refuses(BadNumber("number"), root_of, value)
        for value in NO_NUMBERS:
            self.refuses(BadNumber("number"), root_of, value)


class TestTexts(Case):
    def test_there_and_back(self):
        for value in FEW + great_numbers() + [int(NINES), -int(NINES), (int(NINES) - 1, int(NINES))]:
            text = number_text(value)
            wanted = fraction(value)
            self.same(text, str(wanted))
            self.same(read_number(text), number(wanted))
        self.same([number_text(number=[1, 2]), read_number(text="-1/3")], ["1/2", (-1, 3)])

    def test_text_of_great_numbers(self):
        self.same(number_text(int(ONE_MORE)), ONE_MORE)
        great = Fraction(10 ** 999, 10 ** 999 - 1)
        self.same(number_text(number(great)), str(great))
        self.same(number_text(-10 ** 999), "-1" + "0" * 999)

    def test_text_of_no_number(self):
        for value in NO_NUMBERS:
            self.refuses(BadNumber("number"), number_text, value)

    def test_sixty_digits(self):
        self.same(read_number(NINES), int(NINES))
        self.same(read_number("-" + NINES), -int(NINES))
        self.same(read_number(f"-{NINES}/{int(NINES) - 1}"), (-int(NINES), int(NINES) - 1))
        self.same(read_number(f"1/{NINES}"), (1, int(NINES)))
        for text in (ONE_MORE, "-" + ONE_MORE, f"1/{ONE_MORE}", f"{ONE_MORE}/3", "1" * 5000, "1/" + "7" * 5000):
            self.refuses(BadText(0, 0), read_number, text)

    def test_items_that_cannot_stand(self):
        for text in (
                "+1", "+1/2", "01", "00", "-01", "-0", "-00", "4/2", "3/1", "-3/1", "0/5", "-0/5", "1/-2", "1/0", "0/0",
                "1/1", "1/02", "01/2", "1/+2", "1/2/3", "1//2", "/", "1/", "/2", "-/2", "-", "--1", "1-", "1.5",
                "1e3", "1_0",
                "x", "1x", "0x1", "1,2", "\t1", "1\t", "1\r", "\u0661", "\u00b2", "1/\u0662", "\uff11", "\x00", "one",
                "(1, 2)",
                "None", "True"):
            self.refuses(BadText(0, 0), read_number, text)

    def test_blanks_and_items(self):
        self.refuses(BadText(0, 0), read_number, "")
        self.refuses(BadText(0, 0), read_number, " ")
        self.refuses(BadText(0, 0), read_number, " 1")
        self.refuses(BadText(0, 1), read_number, "1 ")
        self.refuses(BadText(0, 1), read_number, "1  2")
        self.refuses(BadText(0, 1), read_number, "1 / 2")
        self.refuses(BadText(0, 1), read_number, "1 x")
        self.refuses(BadText(0, 0), read_number, "x 1")

    def test_lines(self):
        self.refuses(BadText(0, 0), read_number, "\n")
        self.refuses(BadText(0, 0), read_number, "\n1")
        self.refuses(BadText(1, 0), read_number, "1\n2")
        self.refuses(BadText(1, 0), read_number, "1/2\n\n")
        self.refuses(BadText(1, 0), read_number, "1\n x")
        self.refuses(BadText(0, 1), read_number, "1 2\n3")
        self.refuses(BadText(0, 0), read_number, "1\r\n2")

    def test_values_that_are_no_strings(self):
        for value in (None, 1, True, 0.5, b"1", [], ["1"], ("1",), {}, (1, 2), object()):
            self.refuses(BadText(0, 0), read_number, value)


if __name__ == "__main__":
    unittest.main()
