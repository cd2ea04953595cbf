"""Points 9 and 10: tall numbers."""

import operator
import unittest

from bestpapers.errors import BadCount, DivisionByZero, UnlikeParts
from bestpapers.fracs import Frac
from bestpapers.tall import Tall
from tests.helpers import fault, shape, texts

ORDERS = (operator.lt, operator.le, operator.gt, operator.ge)
COMPARISONS = ORDERS + (operator.eq, operator.ne)


class Making(unittest.TestCase):
    def test_parts(self):
        for passed in ([1, Frac(1, 2), -3], (1, Frac(1, 2), -3)):
            tall = Tall(passed)
            self.assertEqual(shape(tall.parts), ("tuple", ["Frac"] * 3))
            self.assertEqual(texts(tall.parts), ["1", "1/2", "-3"])

    def test_counts(self):
        self.assertEqual(len(Tall([5]).parts), 1)
        self.assertEqual(len(Tall([5] * 24).parts), 24)
        for many in (0, 25, 26):
            expected = (BadCount, {"what": "parts", "many": many})
            self.assertEqual(fault(Tall, [5] * many), expected)
            self.assertEqual(fault(Tall, (5,) * many), expected)

    def test_no_list_is_kept(self):
        passed = [1, 2]
        tall = Tall(passed)
        passed[0] = 9
        passed.append(3)
        self.assertEqual(texts(tall.parts), ["1", "2"])

    def test_list_stays(self):
        passed = [1, Frac(2)]
        Tall(passed)
        self.assertEqual(shape(passed), ("list", ["int", "Frac"]))

    def test_plain_and_far(self):
        self.assertEqual(texts(Tall.plain(Frac(7, 3)).parts), ["0", "7/3"])
        self.assertEqual(texts(Tall.plain(-4).parts), ["0", "-4"])
        self.assertEqual(texts(Tall.far(Frac(7, 3)).parts), ["7/3", "0"])
        self.assertEqual(texts(Tall.far(-4).parts), ["-4", "0"])
        self.assertIs(Tall.plain(0) == Tall.far(0), True)
        self.assertIs(Tall.far(Frac(1, 10 ** 40)) > Tall.plain(10 ** 40), True)
        self.assertIs(Tall.far(-1) < Tall.plain(-10 ** 40), True)

    def test_shown(self):
        self.assertEqual(repr(Tall.far(2)), "Tall((Frac(2, 1), Frac(0, 1)))")


class Operators(unittest.TestCase):
    def check(self, tall, parts):
        self.assertIs(type(tall), Tall)
        self.assertEqual(texts(tall.parts), parts)

    def test_sum_and_difference(self):
        a, b = Tall((1, Frac(1, 2), -3)), Tall((Frac(1, 3), Frac(1, 2), 5))
        self.check(a + b, ["4/3", "1", "2"])
        self.check(a - b, ["2/3", "0", "-8"])
        self.check(b - a, ["-2/3", "0", "8"])
        self.check(-a, ["-1", "-1/2", "3"])
        self.check(a, ["1", "1/2", "-3"])
        self.check(b, ["1/3", "1/2", "5"])

    def test_multiples(self):
        a = Tall((1, Frac(1, 2), -3))
        for factor, parts in ((2, ["2", "1", "-6"]), (Frac(2), ["2", "1", "-6"]),
                              (Frac(-1, 3), ["-1/3", "-1/6", "1"]), (0, ["0", "0", "0"])):
            self.check(a * factor, parts)
            self.check(factor * a, parts)

    def test_over(self):
        a = Tall((1, Frac(1, 2), -3))
        self.check(a.over(2), ["1/2", "1/4", "-3/2"])
        self.check(a.over(Frac(-1, 3)), ["-3", "-3/2", "9"])
        for zero in (0, Frac(0)):
            self.assertEqual(fault(a.over, zero), (DivisionByZero, {}))
            self.assertEqual(fault(Tall((0,)).over, zero), (DivisionByZero, {}))

    def test_sign_and_truth(self):
        for parts, sign in (
            ((0,), 0), ((0, 0, 0), 0), ((1, -5), 1), ((-1, 5), -1), ((0, -5), -1),
            ((0, 5, -9), 1), ((0, 0, Frac(-1, 10 ** 40)), -1), ((Frac(1, 9), 0), 1),
            ([0] * 23 + [-1], -1),
        ):
            tall = Tall(parts)
            self.assertEqual(tall.sign(), sign)
            self.assertIs(type(tall.sign()), int)
            self.assertIs(bool(tall), sign != 0)

    def test_order(self):
        ascending = [
            (-2, 9, 9), (-1, 0, 0), (0, Frac(-1, 2), 100), (0, 0, -1), (0, 0, 0),
            (0, 0, Frac(1, 3)), (0, Frac(1, 3), -7), (0, Frac(1, 2), -8), (3, -9, -9),
        ]
        for at, left in enumerate(ascending):
            for to, right in enumerate(ascending):
                for compare in COMPARISONS:
                    found = compare(Tall(left), Tall(right))
                    self.assertIs(found, compare(at, to), (compare, left, right))

    def test_equal_numbers_of_other_kinds(self):
        self.assertIs(Tall((1, Frac(4, 2))) == Tall([Frac(1), 2]), True)
        self.assertIs(Tall((1, Frac(4, 2))) != Tall([Frac(1), 2]), False)

    def test_unlike_parts(self):
        short, long = Tall((1, 2)), Tall((1, 2, 0))
        for step in ORDERS + (operator.add, operator.sub):
            self.assertEqual(fault(step, short, long), (UnlikeParts, {"left": 2, "right": 3}))
            self.assertEqual(fault(step, long, short), (UnlikeParts, {"left": 3, "right": 2}))
        one = Tall((7,))
        self.assertEqual(fault(operator.lt, one, long), (UnlikeParts, {"left": 1, "right": 3}))

    def test_unlike_parts_are_not_equal(self):
        short, long = Tall((1, 2)), Tall((1, 2, 0))
        self.assertIs(short == long, False)
        self.assertIs(long == short, False)
        self.assertIs(short != long, True)
        self.assertIs(long != short, True)

    def test_other_kinds_are_not_equal(self):
        for other in (None, "", "1", "(1, 2)"):
            self.assertIs(Tall((1, 2)) == other, False)
            self.assertIs(other == Tall((1, 2)), False)
            self.assertIs(Tall((1, 2)) != other, True)
            self.assertIs(other != Tall((1, 2)), True)

    def test_in_place_forms_make_new_numbers(self):
        a = Tall((1, 2))
        for step, other in ((operator.iadd, Tall((1, 1))), (operator.isub, Tall((1, 1))),
                            (operator.imul, 3)):
            b = a
            b = step(b, other)
            self.assertIsNot(a, b)
            self.check(a, ["1", "2"])

    def test_no_other_operands(self):
        for step in ORDERS + (operator.add, operator.sub, operator.mul):
            with self.assertRaises(TypeError):
                step(Tall((1, 2)), None)
            with self.assertRaises(TypeError):
                step(None, Tall((1, 2)))


if __name__ == "__main__":
    unittest.main()
