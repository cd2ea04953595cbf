"""Points 11 and 12: names and variables."""

import unittest

from bestpapers.errors import BadName, BadPull, Crossed, NoEnd, NotWhole
from bestpapers.fracs import Frac
from bestpapers.variables import Variable
from tests.helpers import HUGE, fault, shape


def named(error, name="x"):
    return (error, {"name": name})


class Names(unittest.TestCase):
    def test_names(self):
        for name in ("a", "z", "x1", "a_", "a" * 12, "abcdefghijkl", "x_0123456789",
                     "variable", "va", "rows", "mini", "maxi", "wholes", "u", "d", "up_",
                     "downs", "var1", "a__b", "mnopqrstuvwx", "y9"):
            self.assertEqual(Variable(name).name, name)

    def test_no_names(self):
        for name in ("", "a" * 13, "A", "aB", "1a", "_a", "0", "9", "_", " ", " a", "a ",
                     "a b", "a\n", "\na", "\n", "a-b", "a.b", "a*", "a/b", "a{", "a`", "a~",
                     "a@", "a[", "a:", "aZ", "Za", "~", "{", "`", "/", ":", "a/", "a^", "^"):
            self.assertEqual(fault(Variable, name), named(BadName, name), name)

    def test_words_are_not_names(self):
        for word in ("var", "row", "min", "max", "whole", "up", "down"):
            self.assertEqual(fault(Variable, word), named(BadName, word))


class Ends(unittest.TestCase):
    def test_left_out(self):
        x = Variable("x")
        self.assertEqual((x.name, x.low, x.high, x.whole, x.pull), ("x", 0, None, False, "down"))
        self.assertEqual(shape([x.low, x.high, x.whole]), ("list", ["Frac", "NoneType", "bool"]))

    def test_all_given(self):
        x = Variable("x", -2, Frac(6, 2), whole=True, pull="up")
        self.assertEqual((x.low, x.high, x.whole, x.pull), (-2, 3, True, "up"))
        self.assertEqual(shape([x.low, x.high, x.whole]), ("list", ["Frac", "Frac", "bool"]))

    def test_by_name(self):
        x = Variable(high=Frac(1, 2), low=None, name="x")
        self.assertEqual((x.low, x.high, x.pull), (None, Frac(1, 2), "up"))

    def test_whole_and_pull_are_passed_by_keyword(self):
        with self.assertRaises(TypeError):
            Variable("x", 0, 3, True)

    def test_missing(self):
        self.assertEqual(fault(Variable, "x", None), named(NoEnd))
        self.assertEqual(fault(Variable, "x", None, None), named(NoEnd))
        self.assertIsNone(fault(Variable, "x", None, 0))
        self.assertIsNone(fault(Variable, "x", 0, None))

    def test_crossed_and_equal(self):
        self.assertEqual(fault(Variable, "x", 1, 0), named(Crossed))
        self.assertEqual(fault(Variable, "x", Frac(1, HUGE), 0), named(Crossed))
        self.assertEqual(fault(Variable, "x", 0, -1), named(Crossed))
        self.assertEqual(fault(Variable, "x", high=Frac(-1, HUGE)), named(Crossed))
        self.assertIsNone(fault(Variable, "x", 0, 0))
        self.assertIsNone(fault(Variable, "x", Frac(2, 4), Frac(1, 2)))
        self.assertIsNone(fault(Variable, "x", HUGE, Frac(HUGE), whole=True))

    def test_whole(self):
        for low, high in ((None, 3), (0, None), (Frac(1, 2), 3), (0, Frac(7, 2)),
                          (Frac(1, 2), Frac(1, 2)), (Frac(1, 3), None), (None, Frac(1, 3))):
            self.assertEqual(fault(Variable, "x", low, high, whole=True), named(NotWhole))
            self.assertIsNone(fault(Variable, "x", low, high, whole=False))
        self.assertIsNone(fault(Variable, "x", Frac(4, 2), 2, whole=True))


class Pulls(unittest.TestCase):
    def test_each_pull(self):
        for low, high in ((0, 3), (0, None), (None, 3)):
            self.assertEqual(Variable("x", low, high).pull, "up" if low is None else "down")
            self.assertEqual(Variable("x", low, high, pull=None).pull,
                             "up" if low is None else "down")
            for pull, needed in (("down", low), ("up", high)):
                if needed is None:
                    self.assertEqual(fault(Variable, "x", low, high, pull=pull), named(BadPull))
                else:
                    self.assertEqual(Variable("x", low, high, pull=pull).pull, pull)

    def test_other_pulls(self):
        for pull in ("", "Up", "UP", "low", "high", " up", "up ", "down\n", "downup", "o", "none"):
            self.assertEqual(fault(Variable, "x", 0, 3, pull=pull), named(BadPull))


class Order(unittest.TestCase):
    def test_name_is_first(self):
        self.assertEqual(fault(Variable, "X", None, None, whole=True, pull="?"), named(BadName, "X"))
        self.assertEqual(fault(Variable, "X", 1, 0), named(BadName, "X"))

    def test_ends_are_second(self):
        self.assertEqual(fault(Variable, "x", None, None, whole=True, pull="?"), named(NoEnd))

    def test_crossing_is_third(self):
        self.assertEqual(fault(Variable, "x", Frac(3, 2), 1, whole=True, pull="?"), named(Crossed))

    def test_whole_is_before_pull(self):
        self.assertEqual(fault(Variable, "x", 0, None, whole=True, pull="up"), named(NotWhole))
        self.assertEqual(fault(Variable, "x", 0, Frac(1, 2), whole=True, pull="?"), named(NotWhole))


if __name__ == "__main__":
    unittest.main()
