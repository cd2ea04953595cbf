"""Point 18: broken items, feasible points and values of aims."""

import unittest

from bestpapers.errors import WrongWidth
from bestpapers.fracs import Frac
from bestpapers.points import aim_values, broken, is_feasible
from bestpapers.problems import Problem
from bestpapers.rows import Aim, Row
from bestpapers.variables import Variable
from tests.helpers import HUGE, fault, sample, shape, texts, variables

LITTLE = Frac(1, HUGE)


def both(problem, point):
    """The broken items, after a look whether is_feasible tells the same."""
    found = broken(problem, point)
    if is_feasible(problem, point) is not (found == ()):
        raise AssertionError("is_feasible and broken differ")
    return found


class Broken(unittest.TestCase):
    def test_feasible(self):
        for point in ([0, 0, Frac(5, 2)], (1, Frac(5, 2), Frac(1, 2))):
            self.assertEqual(both(sample(), point), ())
            self.assertIs(is_feasible(sample(), point), True)

    def test_ascending_tuple_of_integers(self):
        found = broken(sample(), [-1, -1, 9])
        self.assertEqual(found, (0, 1, 2, 4, 5))
        self.assertEqual(shape(found), ("tuple", ["int"] * 5))
        self.assertIs(is_feasible(sample(), [-1, -1, 9]), False)

    def test_each_item_alone(self):
        problem = Problem([Variable("x", 0, 5), Variable("y", None, 2)],
                          [Row("a", [1, 0], "<=", 4), Row("b", [0, 1], ">=", -3),
                           Row("c", [1, 1], "=", 1)])
        self.assertEqual(both(problem, (2, -1)), ())
        self.assertEqual(both(problem, (5, -4)), (2, 3))
        self.assertEqual(both(problem, (-1, 2)), (0,))
        self.assertEqual(both(problem, (1, 1)), (4,))
        self.assertEqual(both(problem, (-3, 3)), (0, 1, 4))

    def test_ends_of_variables(self):
        problem = Problem([Variable("x", Frac(1, 3), Frac(2, 3))])
        for value in (Frac(1, 3), Frac(1, 2), Frac(2, 3), Frac(1, 3) + LITTLE):
            self.assertEqual(both(problem, [value]), ())
        for value in (Frac(1, 3) - LITTLE, Frac(2, 3) + LITTLE, 0, 1, -HUGE, HUGE):
            self.assertEqual(both(problem, [value]), (0,))

    def test_missing_ends(self):
        problem = Problem([Variable("x", 1, None), Variable("y", None, 1)])
        self.assertEqual(both(problem, (HUGE, -HUGE)), ())
        self.assertEqual(both(problem, (1, 1)), ())
        self.assertEqual(both(problem, (1 - LITTLE, 1)), (0,))
        self.assertEqual(both(problem, (1, 1 + LITTLE)), (1,))

    def test_ends_of_rows(self):
        for sense, below, above in (("<=", (), (1,)), (">=", (1,), ()), ("=", (1,), (1,))):
            problem = Problem([Variable("x", 0)], [Row("r", [2], sense, 5)])
            self.assertEqual(both(problem, [Frac(5, 2)]), ())
            self.assertEqual(both(problem, [Frac(5, 2) - LITTLE]), below)
            self.assertEqual(both(problem, [Frac(5, 2) + LITTLE]), above)

    def test_whole_variables(self):
        problem = Problem([Variable("x", 0, 5, whole=True), Variable("y", 0, 5)])
        for value in (0, 3, 5, Frac(10, 5)):
            self.assertEqual(both(problem, [value, Frac(1, 2)]), ())
        for value in (Frac(1, 2), LITTLE, 5 - LITTLE, 3 + LITTLE):
            self.assertEqual(both(problem, [value, 1]), (0,))

    def test_each_index_once(self):
        problem = Problem([Variable("x", 0, 5, whole=True)], [Row("r", [1], "<=", 3)])
        for value in (Frac(11, 2), 5 + LITTLE):
            self.assertEqual(both(problem, [value]), (0, 1))
        self.assertEqual(both(problem, [-LITTLE]), (0,))

    def test_lists_stay(self):
        point = [1, Frac(1, 2), 2]
        broken(sample(), point)
        is_feasible(sample(), point)
        aim_values(sample(), point)
        self.assertEqual(shape(point), ("list", ["int", "Frac", "int"]))


class AimValues(unittest.TestCase):
    def test_values(self):
        found = aim_values(sample(), [1, 2, Frac(1, 2)])
        self.assertEqual(texts(found), ["15/2", "-1/2"])
        self.assertEqual(shape(found), ("tuple", ["Frac", "Frac"]))

    def test_constants(self):
        problem = Problem(variables(1), [], [Aim("max", [2], 5), Aim("min", [2], Frac(-1, 2)),
                                             Aim("max", [0])])
        self.assertEqual(texts(aim_values(problem, (3,))), ["11", "11/2", "0"])

    def test_without_aims(self):
        self.assertEqual(aim_values(Problem(variables(2)), [7, 7]), ())

    def test_points_need_not_be_feasible(self):
        self.assertEqual(texts(aim_values(sample(), [-9, -9, 9])), ["-5", "-45/2"])


class Widths(unittest.TestCase):
    def test_wrong_width(self):
        for problem in (sample(), Problem(variables(3)), Problem(variables(3), [Row("r", [1, 1, 1], "=", 0)])):
            for call in (broken, is_feasible, aim_values):
                for point in ([], [1, 2], (1, 2, 3, 4)):
                    expected = (WrongWidth, {"have": len(point), "need": 3})
                    self.assertEqual(fault(call, problem, point), expected)


if __name__ == "__main__":
    unittest.main()
