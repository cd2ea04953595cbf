"""Points 19 and 20: stages, stage vectors and the order of points."""

import itertools
import unittest

from bestpapers.errors import WrongWidth
from bestpapers.fracs import Frac
from bestpapers.problems import Problem
from bestpapers.rows import Aim, Row
from bestpapers.stages import compare, stage_constants, stage_rows, stage_vector
from bestpapers.variables import Variable
from tests.helpers import HUGE, fault, sample, shape, texts, variables


class Stages(unittest.TestCase):
    def test_rows(self):
        rows = stage_rows(sample())
        self.assertEqual([texts(row) for row in rows], [
            ["1", "1", "1"], ["-1/2", "0", "2"],
            ["1", "0", "0"], ["0", "1", "0"], ["0", "0", "-1"],
        ])
        self.assertEqual(shape(rows), ("list", [("tuple", ["Frac"] * 3)] * 5))

    def test_constants(self):
        problem = Problem(variables(2), [], [
            Aim("min", [1, 0], 4), Aim("max", [1, 0], Frac(5, 2)), Aim("max", [0, 1], -3)])
        constants = stage_constants(problem)
        self.assertEqual(texts(constants), ["4", "-5/2", "3", "0", "0"])
        self.assertEqual(shape(constants), ("tuple", ["Frac"] * 5))

    def test_without_aims(self):
        problem = Problem([Variable("x", 0, 1, pull="up"), Variable("y", None, 1)])
        self.assertEqual(stage_rows(problem), [(-1, 0), (0, -1)])
        self.assertEqual(stage_constants(problem), (0, 0))
        self.assertEqual(stage_vector(problem, [3, -4]), (-3, 4))

    def test_pulls(self):
        problem = Problem([Variable("x", 0, 1, pull="down"), Variable("y", 0, 1, pull="up"),
                           Variable("z", 0)], [], [Aim("max", [0, 0, 1])])
        self.assertEqual(stage_rows(problem), [(0, 0, -1), (1, 0, 0), (0, -1, 0), (0, 0, 1)])

    def test_rows_of_the_problem_are_no_stages(self):
        problem = Problem(variables(1), [Row("r", [5], "<=", 7)])
        self.assertEqual(stage_rows(problem), [(1,)])

    def test_a_returned_list_belongs_to_the_caller(self):
        problem = sample()
        rows = stage_rows(problem)
        rows[0] = None
        rows.pop()
        self.assertEqual(len(stage_rows(problem)), 5)
        self.assertEqual(stage_rows(problem)[0], (1, 1, 1))
        self.assertEqual(texts(stage_vector(problem, [1, 2, 3])), ["10", "11/2", "1", "2", "-3"])


class Vectors(unittest.TestCase):
    def test_vector(self):
        for point in ([1, 2, Frac(1, 2)], (Frac(1), 2, Frac(1, 2))):
            vector = stage_vector(sample(), point)
            self.assertEqual(texts(vector), ["15/2", "1/2", "1", "2", "-1/2"])
            self.assertEqual(shape(vector), ("tuple", ["Frac"] * 5))

    def test_constant_of_a_max_aim(self):
        problem = Problem(variables(1), [], [Aim("max", [2], 5), Aim("min", [2], 5)])
        self.assertEqual(stage_vector(problem, (3,)), (-11, 11, 3))

    def test_great_numbers(self):
        problem = Problem(variables(1), [], [Aim("max", [HUGE], -HUGE)])
        self.assertEqual(stage_vector(problem, (HUGE,)), (HUGE - HUGE * HUGE, HUGE))

    def test_point_stays(self):
        point = [1, 2, Frac(3)]
        stage_vector(sample(), point)
        compare(sample(), point, point)
        self.assertEqual(shape(point), ("list", ["int", "int", "Frac"]))

    def test_wrong_width(self):
        for problem in (sample(), Problem(variables(3))):
            for point in ([], [1, 2], (1, 2, 3, 4)):
                expected = (WrongWidth, {"have": len(point), "need": 3})
                self.assertEqual(fault(stage_vector, problem, point), expected)


class Compare(unittest.TestCase):
    def check(self, problem, earlier, later):
        self.assertEqual(shape(compare(problem, earlier, later)), "int")
        self.assertEqual(compare(problem, earlier, later), -1)
        self.assertEqual(compare(problem, later, earlier), 1)

    def test_the_first_aim_decides(self):
        problem = Problem(variables(2), [], [Aim("min", [1, 0]), Aim("max", [0, 1])])
        self.check(problem, [1, 0], [2, 9])
        self.check(problem, [1, 5], [1, 4])

    def test_a_max_aim(self):
        self.check(Problem(variables(1), [], [Aim("max", [1])]), [5], [4])

    def test_pulls_decide_at_last(self):
        self.check(Problem(variables(2)), [1, 2], [1, 3])
        self.check(Problem([Variable("x"), Variable("y", 0, 9, pull="up")]), [1, 3], [1, 2])
        problem = Problem(variables(2), [], [Aim("min", [1, 1])])
        self.check(problem, [0, 2], [1, 1])
        self.check(problem, [0, 2], [2, 0])

    def test_the_last_stage_alone_differs(self):
        problem = Problem(variables(3), [], [Aim("min", [1, 1, 0])])
        little = Frac(1, HUGE)
        self.check(problem, [1, 1, 1], [1, 1, 1 + little])

    def test_equal_points(self):
        for point in ([1, 2, 3], [Frac(1, 2), 0, -9]):
            for problem in (sample(), Problem(variables(3))):
                found = compare(problem, point, tuple(point))
                self.assertEqual(found, 0)
                self.assertEqual(shape(found), "int")

    def test_points_need_not_be_feasible(self):
        self.check(sample(), [-99, 0, 0], [0, 0, 0])

    def test_like_the_vectors(self):
        problem = Problem([Variable("x", 0, 3), Variable("y", 0, 3, pull="up")], [],
                          [Aim("max", [1, 1]), Aim("min", [0, 0], 1)])
        points = list(itertools.product((0, Frac(1, 2), 3), repeat=2))
        for left, right in itertools.product(points, repeat=2):
            first, second = stage_vector(problem, left), stage_vector(problem, right)
            expected = 0 if left == right else -1 if first < second else 1
            self.assertEqual(compare(problem, left, right), expected)

    def test_wrong_width(self):
        good = [1, 2, 3]
        for bad in ([], [1, 2], (1, 2, 3, 4)):
            expected = (WrongWidth, {"have": len(bad), "need": 3})
            self.assertEqual(fault(compare, sample(), bad, good), expected)
            self.assertEqual(fault(compare, sample(), good, bad), expected)

    def test_the_left_point_is_first(self):
        expected = (WrongWidth, {"have": 2, "need": 3})
        self.assertEqual(fault(compare, sample(), [1, 2], [1]), expected)
        self.assertEqual(fault(compare, sample(), [1, 2], [1, 2, 3, 4]), expected)


if __name__ == "__main__":
    unittest.main()
