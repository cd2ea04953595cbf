"""Point 65: the plain way over all whole points."""

import random
import unittest

from bestpapers.allpoints import by_points
from bestpapers.errors import NotAllWhole
from bestpapers.problems import Problem
from bestpapers.rows import Aim, Row
from bestpapers.solving import solve
from bestpapers.variables import Variable
from tests.helpers import fault, picture, shape
from tests.test_judging import some_problem
from tests.test_listings import little


class AllPoints(unittest.TestCase):
    def test_examples(self):
        self.assertEqual(by_points(little()), (0, 1))
        self.assertEqual(shape(by_points(little())), ("tuple", ["Frac", "Frac"]))
        problem = Problem([Variable("x", 0, 3, whole=True), Variable("y", 0, 3, whole=True)],
                          [Row("r", [2, 2], "<=", 3)], [Aim("max", [1, 1])])
        self.assertEqual(by_points(problem), (0, 1))
        self.assertEqual(by_points(Problem([Variable("x", -2, -2, whole=True)])), (-2,))

    def test_pulls(self):
        for pull, expected in (("down", -1), ("up", 4)):
            self.assertEqual(by_points(Problem([Variable("x", -1, 4, whole=True, pull=pull)])), (expected,))

    def test_empty(self):
        for row in (Row("r", [2, 4], "=", 3), Row("r", [1, 1], ">=", 7), Row("r", [0, 0], "<=", -1)):
            problem = Problem([Variable("x", 0, 3, whole=True), Variable("y", 0, 3, whole=True)], [row], [Aim("max", [1, 0])])
            self.assertIsNone(by_points(problem))
            self.assertEqual(solve(problem).kind, "empty")

    def test_against_solve(self):
        chance = random.Random(65)
        empty = 0
        for _ in range(150):
            problem = some_problem(chance)
            before = picture(problem)
            self.assertEqual(by_points(problem), solve(problem).point)
            self.assertEqual(picture(problem), before)
            empty += by_points(problem) is None
        self.assertGreater(empty, 10)

    def test_many_points(self):
        problem = Problem([Variable(f"x{at}", 0, 1, whole=True) for at in range(10)],
                          [Row("r", [3] * 5 + [5] * 5, ">=", 16)], [Aim("min", [2] * 5 + [3] * 5)])
        self.assertEqual(by_points(problem), solve(problem).point)

    def test_not_all_whole(self):
        for kinds in ((True, False), (False, True), (False, False)):
            problem = Problem([Variable(name, 0, 1, whole=whole) for name, whole in zip("xy", kinds)])
            self.assertEqual(fault(by_points, problem), (NotAllWhole, {}))


if __name__ == "__main__":
    unittest.main()
