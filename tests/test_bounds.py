"""Point 51: how great the figures of a told point can be."""

import random
import unittest

from bestpapers.bounds import figure_bound
from bestpapers.fracs import Frac
from bestpapers.problems import Problem
from bestpapers.rows import Row
from bestpapers.solving import solve
from bestpapers.variables import Variable
from tests.algebra import some_mixed
from tests.helpers import shape, variables


class Bounds(unittest.TestCase):
    def check(self, items, rows, expected):
        found = figure_bound(Problem(items, rows))
        self.assertEqual((found, shape(found)), (expected, "int"))

    def test_one_variable(self):
        self.check([Variable("x")], [], 1)
        self.check([Variable("x", 0, 0)], [], 1)
        self.check([Variable("x", None, -7)], [], 7)
        self.check([Variable("x", Frac(-7, 2), 3)], [], 7)
        self.check([Variable("x", Frac(1, 3), Frac(1, 2))], [], 6)
        self.check([Variable("x", 0, Frac(1, 9))], [], 9)

    def test_rows(self):
        self.check([Variable("x")], [Row("r", [Frac(1, 2)], "<=", Frac(1, 3))], 3)
        self.check([Variable("x")], [Row("r", [-8], ">=", 1)], 8)
        self.check([Variable("x")], [Row("r", [1], "=", -11)], 11)
        self.check([Variable("x", 0, 4)], [Row("r", [0], "<=", 0)], 4)
        self.check([Variable("x")], [Row("r", [Frac(5, 6)], ">=", Frac(-3, 4))], 10)

    def test_each_item_by_itself(self):
        items = [Variable("x", 0, Frac(1, 2)), Variable("y", 0, Frac(5, 3))]
        self.check(items, [], 2 * 5 ** 2)
        self.check(items, [Row("r", [0, 0], "<=", 0), Row("s", [Frac(1, 4), Frac(1, 6)], "<=", 1)], 2 * 12 ** 2)

    def test_sixteen_variables(self):
        factorial = 20922789888000
        self.check(variables(16, high=3), [Row("r", [1] * 16, "<=", 2)], factorial * 3 ** 16)
        self.check(variables(16, high=Frac(1, 10 ** 40)), [], factorial * 10 ** 640)

    def test_the_told_point(self):
        chance = random.Random(51)
        told = 0
        for _ in range(200):
            problem = some_mixed(chance, 3, 4, whole=2)
            answer = solve(problem)
            if answer.kind == "told":
                told += 1
                for number in answer.point:
                    self.assertLessEqual(max(abs(number.num), number.den), figure_bound(problem))
        self.assertGreater(told, 50)


if __name__ == "__main__":
    unittest.main()
