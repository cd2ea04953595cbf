"""Points 13 and 14: sums, rows and aims."""

import unittest

from bestpapers.errors import BadCount, BadName, BadSense, WrongWidth
from bestpapers.fracs import Frac
from bestpapers.rows import Aim, Row, Sum
from tests.helpers import HUGE, fault, shape, texts

MIXED = [1, Frac(-1, 3), 0]


def count_fault(many):
    return (BadCount, {"what": "coefficients", "many": many})


def width_fault(have, need):
    return (WrongWidth, {"have": have, "need": need})


class Coefficients(unittest.TestCase):
    def makers(self):
        return (
            Sum,
            lambda numbers: Row("r", numbers, "<=", 1),
            lambda numbers: Aim("min", numbers),
        )

    def test_kept_as_fracs(self):
        for make in self.makers():
            for passed in (MIXED, tuple(MIXED)):
                made = make(passed)
                self.assertEqual(shape(made.coefficients), ("tuple", ["Frac"] * 3))
                self.assertEqual(texts(made.coefficients), ["1", "-1/3", "0"])

    def test_counts(self):
        for make in self.makers():
            for many in (1, 16):
                self.assertEqual(len(make([2] * many).coefficients), many)
            for many in (0, 17, 18):
                self.assertEqual(fault(make, [2] * many), count_fault(many))
                self.assertEqual(fault(make, (2,) * many), count_fault(many))

    def test_no_list_is_kept(self):
        for make in self.makers():
            passed = list(MIXED)
            made = make(passed)
            passed[0] = 5
            passed.append(6)
            self.assertEqual(texts(made.coefficients), ["1", "-1/3", "0"])

    def test_list_stays(self):
        for make in self.makers():
            passed, point = list(MIXED), [1, 2, 3]
            make(passed).amount(point)
            self.assertEqual(shape(passed), ("list", ["int", "Frac", "int"]))
            self.assertEqual(shape(point), ("list", ["int"] * 3))


class Amounts(unittest.TestCase):
    def test_sum(self):
        total = Sum(MIXED)
        self.assertEqual(texts([total.amount([2, 3, 9])]), ["1"])
        self.assertEqual(texts([total.amount((Frac(1, 2), 1, HUGE))]), ["1/6"])
        self.assertEqual(texts([Sum([0]).amount([0])]), ["0"])
        self.assertEqual(texts([Sum([2]).amount([3])]), ["6"])

    def test_row(self):
        row = Row("r", MIXED, ">=", 100)
        self.assertEqual(texts([row.amount([2, 3, 9])]), ["1"])

    def test_aim(self):
        self.assertEqual(texts([Aim("min", MIXED, 4).amount([2, 3, 9])]), ["5"])
        self.assertEqual(texts([Aim("max", MIXED, Frac(-1, 2)).amount((2, 3, 9))]), ["1/2"])
        self.assertEqual(texts([Aim("max", MIXED).amount([2, 3, 9])]), ["1"])

    def test_amount_stands_in_the_class(self):
        self.assertIn("amount", vars(Sum))
        self.assertIn("amount", vars(Aim))
        self.assertIn("__call__", vars(Row))
        self.assertEqual(Row.__bases__, (Sum,))
        self.assertEqual(Aim.__bases__, (Sum,))

    def test_wrong_width(self):
        for call in (Sum([1, 2]).amount, Row("r", [1, 2], "=", 0).amount,
                     Row("r", [1, 2], "=", 0), Aim("max", [1, 2]).amount):
            for point in ((), (1,), [1], (1, 2, 3), [1, 2, 3]):
                self.assertEqual(fault(call, point), width_fault(len(point), 2))


class Rows(unittest.TestCase):
    def test_attributes(self):
        row = Row("r", [1, 2], ">=", 3)
        self.assertEqual((row.name, row.sense, row.right), ("r", ">=", 3))
        self.assertEqual(shape([row.name, row.right]), ("list", ["str", "Frac"]))
        self.assertEqual(texts([Row("r", [1], "=", Frac(1, 2)).right]), ["1/2"])
        named = Row(right=2, sense="<=", coefficients=[1], name="q")
        self.assertEqual((named.name, named.sense, named.right), ("q", "<=", 2))

    def test_conditions(self):
        little = Frac(1, HUGE)
        for value, below, above in ((2 - little, True, False), (2, True, True),
                                    (2 + little, False, True), (-2, True, False)):
            self.assertIs(Row("r", [1, 0], "<=", 2)([value, 9]), below)
            self.assertIs(Row("r", [1, 0], ">=", 2)((value, 9)), above)
            self.assertIs(Row("r", [1, 0], "=", 2)([value, 9]), below and above)

    def test_condition_of_several_terms(self):
        row = Row("r", [2, Frac(-1, 2)], "=", Frac(1, 2))
        self.assertIs(row([1, 3]), True)
        self.assertIs(row([1, Frac(5, 2)]), False)

    def test_bad_senses(self):
        for sense in ("", "<", ">", "==", "=<", "=>", " <=", "<= ", "min", "max", "<=>", "!="):
            self.assertEqual(fault(Row, "r", [1], sense, 0), (BadSense, {"sense": sense}))

    def test_bad_names(self):
        for name in ("", "R", "row", "a" * 13, "1"):
            self.assertEqual(fault(Row, name, [1], "=", 0), (BadName, {"name": name}))

    def test_order(self):
        self.assertEqual(fault(Row, "R", [], "?", 0), (BadName, {"name": "R"}))
        self.assertEqual(fault(Row, "r", [], "?", 0), count_fault(0))
        self.assertEqual(fault(Row, "r", [1] * 17, "?", 0), count_fault(17))
        self.assertEqual(fault(Row, "R", [1], "?", 0), (BadName, {"name": "R"}))


class Aims(unittest.TestCase):
    def test_attributes(self):
        aim = Aim("max", [1, 2], 3)
        self.assertEqual((aim.sense, aim.constant), ("max", 3))
        self.assertEqual(shape([aim.constant]), ("list", ["Frac"]))
        self.assertEqual(texts([Aim("min", [1]).constant]), ["0"])
        self.assertEqual(Aim("min", [1]).sense, "min")
        named = Aim(constant=Frac(1, 2), coefficients=[1], sense="min")
        self.assertEqual(texts([named.constant]), ["1/2"])

    def test_bad_senses(self):
        for sense in ("", "Min", "MAX", "minimum", "<=", "=", " min", "max ", "m", "minmax"):
            self.assertEqual(fault(Aim, sense, [1]), (BadSense, {"sense": sense}))

    def test_order(self):
        self.assertEqual(fault(Aim, "?", []), (BadSense, {"sense": "?"}))
        self.assertEqual(fault(Aim, "?", [1] * 17), (BadSense, {"sense": "?"}))


if __name__ == "__main__":
    unittest.main()
