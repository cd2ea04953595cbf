"""Point 71: the solver behind the presolver."""

import unittest

from bestpapers.errors import BadCount
from bestpapers.fracs import Frac
from bestpapers.judges import judge
from bestpapers.presolved import solve_presolved
from bestpapers.presolving import presolve
from bestpapers.problems import Problem
from bestpapers.rows import Row
from bestpapers.solving import solve
from bestpapers.variables import Variable
from tests.helpers import HUGE, fault, picture
from tests.made_papers import numbers_in
from tests.plain_presolver import nested
from tests.test_solving import claim
from tests.test_traces import decided, sample


class Presolved(unittest.TestCase):
    def check(self, problem):
        before = picture(problem)
        expected = claim(solve(problem))
        for cuts in range(5):
            answer = solve_presolved(problem, cuts=cuts)
            self.assertEqual(claim(answer), expected)
            self.assertIs(judge(problem, answer), True)
            whole, numbers = numbers_in(answer.paper)
            self.assertEqual({number.__class__ for number in whole} - {int}, set())
            self.assertEqual({number.__class__ for number in numbers} - {Frac}, set())
        self.assertEqual(claim(solve_presolved(problem)), expected)
        self.assertEqual(picture(problem), before)
        return expected[0]

    def test_sample(self):
        self.assertEqual(self.check(sample()), "told")
        self.assertEqual(self.check(decided()), "empty")

    def test_the_paper_is_that_of_the_inner_problem_led_back(self):
        for problem in nested(71, 60) + nested(72, 60, rich=True):
            trace = presolve(problem)
            for cuts in (0, 3):
                answer = solve_presolved(problem, cuts=cuts)
                expected = trace.verdict if trace.inner is None else trace.back(solve(trace.inner, cuts=cuts))
                self.assertEqual(vars(answer), vars(expected))

    def test_found_empty(self):
        problem = Problem([Variable("x", 0, 9, whole=True), Variable("y", 0, 9)], [Row("a", [2, 0], "=", 5)])
        self.assertIsNone(presolve(problem).inner)
        self.assertEqual(self.check(problem), "empty")

    def test_not_found_empty_by_the_presolver(self):
        problem = Problem([Variable(name, 0, 1, whole=True) for name in "xyz"], [Row("a", [2, 2, 2], "=", 3)])
        self.assertIsNotNone(presolve(problem).inner)
        self.assertEqual(self.check(problem), "empty")

    def test_chance(self):
        kinds = {}
        for problem in nested(73, 150) + nested(74, 150, rich=True) + nested(75, 60, whole=0):
            kind = self.check(problem)
            kinds[kind] = kinds.get(kind, 0) + 1
        self.assertGreater(min(kinds.values()), 10, kinds)
        self.assertEqual(len(kinds), 3)

    def test_bad_counts(self):
        for cuts in (-HUGE, -1, 5, 6, HUGE):
            for problem in (sample(), decided()):
                self.assertEqual(fault(solve_presolved, problem, cuts=cuts), (BadCount, {"what": "cuts", "many": cuts}))


if __name__ == "__main__":
    unittest.main()
