"""Point 60: weights of the stages."""

import random
import unittest

from bestpapers.changes import with_whole
from bestpapers.errors import WrongWidth
from bestpapers.fracs import Frac
from bestpapers.problems import Problem
from bestpapers.refusals import IsWhole, NoTold
from bestpapers.rows import Aim, Row
from bestpapers.solving import solve
from bestpapers.stages import stage_constants, stage_rows, stage_vector
from bestpapers.variables import Variable
from bestpapers.weighing import weighed, weights
from tests.algebra import plain, some_mixed, some_row
from tests.corner_search import corners, extreme_rays, first_rows, told
from tests.helpers import fault, picture, shape, variables


def loose(*aims):
    return Problem([Variable("x"), Variable("y", 0, 4)], [Row("r", [-1, 1], "<=", 3)], aims)


class Weights(unittest.TestCase):
    def total(self, numbers, values):
        return sum(plain(a) * plain(b) for a, b in zip(numbers, values))

    def check(self, problem, point):
        numbers = weights(problem)
        self.assertEqual(shape(numbers), ("tuple", ["Frac"] * (len(problem.aims) + problem.n)))
        self.assertTrue(all(number > 0 for number in numbers))
        least = self.total(numbers, stage_vector(problem, point))
        for corner in corners(problem):
            if corner != point:
                self.assertGreater(self.total(numbers, stage_vector(problem, corner)), least)
        for ray in extreme_rays(problem):
            self.assertGreater(sum(plain(a) * b for a, b in zip(numbers, first_rows(problem, ray))), 0)
        answer = solve(weighed(problem, numbers))
        self.assertEqual((answer.kind, answer.point, plain(answer.totals[0])), ("told", point, least))

    def test_many_problems(self):
        chance = random.Random(60)
        kinds = {}
        for _ in range(250):
            problem = some_mixed(chance, 3, 3)
            kind, _, point = told(problem)
            kinds[kind] = kinds.get(kind, 0) + 1
            if kind == "told":
                self.check(problem, point)
            else:
                self.assertEqual(fault(weights, problem), (NoTold, {"kind": kind}))
        self.assertGreater(min(kinds.values()), 10, kinds)
        self.assertEqual(len(kinds), 3)

    def test_errors(self):
        self.assertEqual(fault(weights, loose(Aim("max", [1, 0]))), (NoTold, {"kind": "endless"}))
        self.assertEqual(fault(weights, loose(Aim("max", [0, 1]), Aim("max", [1, 0]))), (NoTold, {"kind": "endless"}))
        empty = Problem(variables(1, high=1), [Row("r", [1], ">=", 2)])
        self.assertEqual(fault(weights, empty), (NoTold, {"kind": "empty"}))
        for problem in (empty, Problem(variables(1, high=1))):
            self.assertEqual(fault(weights, with_whole(problem, "x0", True)), (IsWhole, {"name": "x0"}))
        items = [Variable("a", 0, 1), Variable("b", 0, 1, whole=True), Variable("c", 0, 1, whole=True)]
        self.assertEqual(fault(weights, Problem(items)), (IsWhole, {"name": "b"}))

    def test_an_endless_empty_problem(self):
        problem = Problem(variables(2), [Row("r", [0, 1], "<=", -1)], [Aim("max", [1, 0])])
        self.assertEqual(fault(weights, problem), (NoTold, {"kind": "empty"}))

    def test_without_aims(self):
        self.check(Problem(variables(3, high=2), [Row("r", [1, 1, 1], ">=", 3)]), (0, 1, 2))


class Weighed(unittest.TestCase):
    def test_against_the_words(self):
        chance = random.Random(61)
        for _ in range(100):
            problem = some_mixed(chance, 3, 2, aims=3, whole=5)
            many = len(problem.aims) + problem.n
            numbers = some_row(chance, many)
            before = list(numbers)
            found = weighed(problem, numbers)
            self.assertEqual(numbers, before)
            self.assertEqual(picture(found)[:2], picture(problem)[:2])
            self.assertEqual(len(found.aims), 1)
            aim = found.aims[0]
            sums = [sum(plain(a) * plain(row[at]) for a, row in zip(numbers, stage_rows(problem)))
                    for at in range(problem.n)]
            constant = sum(plain(a) * plain(k) for a, k in zip(numbers, stage_constants(problem)))
            self.assertEqual((aim.sense, [plain(a) for a in aim.coefficients], plain(aim.constant)),
                             ("min", sums, constant))
            self.assertEqual(shape((aim.coefficients, aim.constant)), ("tuple", [("tuple", ["Frac"] * problem.n), "Frac"]))

    def test_an_example(self):
        problem = loose(Aim("max", [1, 2], 5), Aim("min", [3, 0], 7))
        aim = weighed(problem, (1, Frac(1, 2), 10, 20)).aims[0]
        self.assertEqual((aim.coefficients, aim.constant), ((-1 + Frac(3, 2) + 10, 18), -5 + Frac(7, 2)))

    def test_widths(self):
        for many in (0, 1, 3, 5):
            self.assertEqual(fault(weighed, loose(Aim("min", [1, 1]), Aim("min", [1, 1])), [1] * many),
                             (WrongWidth, {"have": many, "need": 4}))


if __name__ == "__main__":
    unittest.main()
