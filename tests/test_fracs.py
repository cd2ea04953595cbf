"""Points 6, 7 and 8: fractions (and 3 and 4 for what they keep and return)."""

import operator
import unittest
from fractions import Fraction

from bestpapers.errors import BadNumber, DivisionByZero
from bestpapers.fracs import Frac
from tests.helpers import HUGE, fault

NUMBERS = [
    Fraction(0), Fraction(1), Fraction(-1), Fraction(2), Fraction(-2), Fraction(7),
    Fraction(1, 2), Fraction(-1, 2), Fraction(7, 2), Fraction(-7, 2), Fraction(2, 3),
    Fraction(-3, 4), Fraction(3, 4), Fraction(5, 3), Fraction(-5, 3), Fraction(6, 5),
    Fraction(HUGE), Fraction(-HUGE), Fraction(1, HUGE), Fraction(-1, HUGE),
    Fraction(HUGE, HUGE - 1), Fraction(HUGE - 1, HUGE), Fraction(1 - HUGE, HUGE),
]


def frac(number):
    return Frac(number.numerator, number.denominator)


def plain(number):
    return Fraction(number.num, number.den)


def pairs():
    """Yield ours and the library's for each pair of numbers in which one is a Frac."""
    for left in NUMBERS:
        for right in NUMBERS:
            yield frac(left), frac(right), left, right
            if left.denominator == 1:
                yield left.numerator, frac(right), left, right
            if right.denominator == 1:
                yield frac(left), right.numerator, left, right


class LowestTerms(unittest.TestCase):
    def check(self, number, num, den):
        self.assertEqual((number.num, number.den), (num, den))
        self.assertIs(type(number.num), int)
        self.assertIs(type(number.den), int)

    def test_lowest_terms_and_signs(self):
        self.check(Frac(6, 8), 3, 4)
        self.check(Frac(-6, 8), -3, 4)
        self.check(Frac(6, -8), -3, 4)
        self.check(Frac(-6, -8), 3, 4)
        self.check(Frac(8, 4), 2, 1)
        self.check(Frac(3, 7), 3, 7)
        self.check(Frac(5, -1), -5, 1)

    def test_zero(self):
        self.check(Frac(0, 5), 0, 1)
        self.check(Frac(0, -5), 0, 1)
        self.check(Frac(), 0, 1)
        self.check(Frac(0), 0, 1)

    def test_left_out_and_named(self):
        self.check(Frac(9), 9, 1)
        self.check(Frac(den=5), 0, 1)
        self.check(Frac(den=4, num=2), 1, 2)

    def test_great_ones(self):
        self.check(Frac(HUGE, HUGE), 1, 1)
        self.check(Frac(-HUGE, 2 * HUGE), -1, 2)
        self.check(Frac(HUGE, 10 ** 39), 10, 1)
        self.check(Frac(HUGE, 1 - HUGE), -HUGE, HUGE - 1)
        self.check(Frac(1, -HUGE), -1, HUGE)

    def test_zero_denominator(self):
        for num in (0, 1, -1, HUGE):
            self.assertEqual(fault(Frac, num, 0), (DivisionByZero, {}))


class Operators(unittest.TestCase):
    def check(self, ours, theirs):
        self.assertIs(type(ours), Frac)
        self.assertEqual((ours.num, ours.den), (theirs.numerator, theirs.denominator))

    def test_sums_differences_and_products(self):
        for a, b, left, right in pairs():
            self.check(a + b, left + right)
            self.check(a - b, left - right)
            self.check(a * b, left * right)

    def test_whole_quotient_and_rest(self):
        for a, b, left, right in pairs():
            if right == 0:
                self.assertEqual(fault(operator.floordiv, a, b), (DivisionByZero, {}))
                self.assertEqual(fault(operator.mod, a, b), (DivisionByZero, {}))
                continue
            self.assertIs(type(a // b), int)
            self.assertEqual(a // b, left // right)
            self.check(a % b, left - right * (left // right))

    def test_quotient_signs_by_hand(self):
        self.assertEqual(Frac(7, 2) // 2, 1)
        self.assertEqual(Frac(-7, 2) // 2, -2)
        self.assertEqual(Frac(7, 2) // -2, -2)
        self.assertEqual(Frac(-7, 2) // -2, 1)
        self.assertEqual(7 // Frac(2), 3)
        self.assertEqual(-7 // Frac(2), -4)
        self.assertEqual(str(Frac(7, 2) % -2), "-1/2")
        self.assertEqual(str(Frac(-7, 2) % -2), "-3/2")
        self.assertEqual(str(-7 % Frac(2)), "1")
        self.assertEqual(str(7 % Frac(-3, 2)), "-1/2")

    def test_comparisons(self):
        for a, b, left, right in pairs():
            for compare in (operator.eq, operator.ne, operator.lt,
                            operator.le, operator.gt, operator.ge):
                self.assertIs(compare(a, b), compare(left, right), (compare, a, b))

    def test_close_numbers(self):
        a = Frac(HUGE - 1, HUGE)
        b = Frac(HUGE - 2, HUGE - 1)
        self.assertIs(a > b, True)
        self.assertIs(a < 1, True)
        self.assertIs(1 > a, True)
        self.assertIs(a == b, False)

    def test_other_kinds_are_not_equal(self):
        for number in (Frac(0), Frac(1), Frac(-1, 2)):
            for other in (None, "", "0", "1", "-1/2"):
                self.assertIs(number == other, False)
                self.assertIs(other == number, False)
                self.assertIs(number != other, True)
                self.assertIs(other != number, True)

    def test_signs(self):
        for number in NUMBERS:
            self.check(-frac(number), -number)
            self.check(abs(frac(number)), abs(number))
            self.assertIs(bool(frac(number)), number != 0)

    def test_powers(self):
        for number in NUMBERS:
            for k in range(17):
                self.check(frac(number) ** k, number ** k)
        self.check(Frac(0) ** 0, Fraction(1))
        self.check(Frac(-2, 3) ** 16, Fraction(2 ** 16, 3 ** 16))

    def test_over(self):
        for left in NUMBERS:
            for right in NUMBERS:
                divisors = [frac(right)]
                if right.denominator == 1:
                    divisors.append(right.numerator)
                for divisor in divisors:
                    if right == 0:
                        found = fault(frac(left).over, divisor)
                        self.assertEqual(found, (DivisionByZero, {}))
                    else:
                        self.check(frac(left).over(divisor), left / right)

    def test_floor_ceiling_and_is_whole(self):
        for number in NUMBERS:
            ours = frac(number)
            self.assertIs(type(ours.floor()), int)
            self.assertIs(type(ours.ceiling()), int)
            self.assertEqual(ours.floor(), number.__floor__())
            self.assertEqual(ours.ceiling(), number.__ceil__())
            self.assertIs(ours.is_whole, number.denominator == 1)

    def test_in_place_forms_make_new_numbers(self):
        a = Frac(7, 2)
        changed = []
        for step in (operator.iadd, operator.isub, operator.imul,
                     operator.ifloordiv, operator.imod, operator.ipow):
            b = a
            b = step(b, 2)
            changed.append(str(b))
            self.assertEqual((a.num, a.den), (7, 2))
        self.assertEqual(changed, ["11/2", "3/2", "7", "1", "3/2", "49/4"])

    def test_operands_stay(self):
        a, b = Frac(-5, 6), Frac(3, 4)
        for step in (operator.add, operator.sub, operator.mul, operator.floordiv,
                     operator.mod, operator.lt, operator.eq, Frac.over):
            step(a, b)
            self.assertEqual((a.num, a.den, b.num, b.den), (-5, 6, 3, 4))

    def test_no_sums_with_other_kinds(self):
        steps = (operator.add, operator.sub, operator.mul, operator.floordiv,
                 operator.mod, operator.pow, operator.lt, operator.le,
                 operator.gt, operator.ge)
        for step in steps:
            with self.assertRaises(TypeError):
                step(Frac(1), None)
            with self.assertRaises(TypeError):
                step(None, Frac(1))


class WrittenForms(unittest.TestCase):
    def test_written_form(self):
        self.assertEqual(str(Frac(-3, 4)), "-3/4")
        self.assertEqual(str(Frac(5)), "5")
        self.assertEqual(str(Frac(-5)), "-5")
        self.assertEqual(str(Frac(0, 3)), "0")
        self.assertEqual(str(Frac(10, 4)), "5/2")

    def test_shown(self):
        self.assertEqual(repr([Frac(-6, 8), Frac(5)]), "[Frac(-3, 4), Frac(5, 1)]")

    def test_written_form_of_long_ones(self):
        top, bottom = 10 ** 999 + 1, 10 ** 999
        self.assertEqual(str(Frac(-top, bottom)), f"-{top}/{bottom}")
        self.assertEqual(str(Frac(10 ** 41)), "1" + 41 * "0")

    def test_most_figures(self):
        self.assertEqual(Frac.MOST_FIGURES, 40)

    def test_read_and_write(self):
        for number in NUMBERS:
            text = str(frac(number))
            if len(text.strip("-").split("/")[0]) > 40 or len(text.split("/")[-1]) > 40:
                continue
            read = Frac.read(text)
            self.assertIs(type(read), Frac)
            self.assertEqual(plain(read), number)
            self.assertEqual(str(read), text)

    def test_forty_figures(self):
        nines, ones = 40 * "9", 39 * "1" + "2"
        for text in (nines, "-" + nines, ones + "/7", "-7/" + nines[:-1] + "8",
                     "1/" + nines, "-1/" + nines):
            self.assertEqual(str(Frac.read(text)), text)
        number = Frac.read(nines + "/" + 39 * "9" + "8")
        self.assertEqual((number.num, number.den), (10 ** 40 - 1, 10 ** 40 - 2))

    def test_forty_one_figures(self):
        long = 41 * "9"
        for text in (long, "-" + long, long + "/7", "-" + long + "/7", "1/" + long,
                     "-1/" + long, "1/1" + 40 * "0", "1" + 40 * "0"):
            self.assertEqual(fault(Frac.read, text), (BadNumber, {"text": text}))

    def test_refused(self):
        for text in (
            "", "2/4", "3/1", "-0", "+1", "01", "1/0", "1/-2", " 1", "1 ", "1 /2", "1/ 2",
            " ", "- 1", "1/2 ", "\n", "1\n", "\n1", "1/2\n", "1\n/2", "1/\n2", "-", "/",
            "1/", "/2", "-/2", "--1", "1/2/3", "1//2", "0/1", "0/5", "-0/5", "1/02",
            "-01", "00", "1/00", "0/0", "1/+2", "+0", "1.5", "1e3", "1_0", "a", "1/b",
            "0x1", "None", "-2/4", "6/3", "1-", "1/2-", "1-1", "001/2", "4000000/2",
        ):
            self.assertEqual(fault(Frac.read, text), (BadNumber, {"text": text}), text)

    def test_very_long_texts_are_refused(self):
        for text in (20000 * "1", "1/" + 19998 * "3", 20000 * "-", 20000 * " "):
            self.assertEqual(fault(Frac.read, text), (BadNumber, {"text": text}))


if __name__ == "__main__":
    unittest.main()
