"""Point 77: few rows that cannot be satisfied together."""

import random
import unittest

from bestpapers.clashes import clash
from bestpapers.problems import Problem
from bestpapers.refusals import NotEmpty
from bestpapers.rows import Aim, Row
from bestpapers.solving import solve
from bestpapers.variables import Variable
from tests.algebra import some_mixed
from tests.helpers import fault, picture


def empty_with(problem, names):
    """Tell whether the problem with these rows alone is empty."""
    rows = [row for row in problem.rows if row.name in names]
    return solve(Problem(problem.variables, rows)).kind == "empty"


class Clashes(unittest.TestCase):
    def check(self, problem, *expected):
        before = picture(problem)
        names = clash(problem)
        self.assertEqual(picture(problem), before)
        self.assertEqual(names.__class__, tuple)
        if expected:
            self.assertEqual(names, expected)
        self.assertEqual(names, tuple(row.name for row in problem.rows if row.name in names))
        self.assertTrue(empty_with(problem, names))
        for name in names:
            self.assertFalse(empty_with(problem, [other for other in names if other != name]))
        self.assertEqual(names, self.by_the_words(problem))
        return names

    def by_the_words(self, problem):
        left = [row.name for row in problem.rows]
        for row in problem.rows:
            smaller = [name for name in left if name != row.name]
            if empty_with(problem, smaller):
                left = smaller
        return tuple(left)

    def test_several_sets(self):
        """a and d clash, d and e do, and so do a, b and c; of these sets the one that ends last is left."""
        problem = Problem([Variable("x"), Variable("y")],
                          [Row("a", [1, 0], "<=", 2), Row("b", [0, 1], "<=", 2), Row("c", [1, 1], ">=", 9), Row("d", [1, -1], ">=", 3),
                           Row("e", [1, -1], "<=", 2)])
        self.check(problem, "d", "e")
        turned = Problem(problem.variables, problem.rows[::-1])
        self.check(turned, "c", "b", "a")
        self.check(Problem(problem.variables, problem.rows[:4]), "a", "d")
        self.check(Problem(problem.variables, problem.rows[:3]), "a", "b", "c")

    def test_boxes_and_one_row(self):
        self.check(Problem([Variable("x", 0, 1)], [Row("a", [1], "<=", 5), Row("b", [1], ">=", 2), Row("c", [1], ">=", 0)]), "b")
        self.check(Problem([Variable("x", 0, 1)], [Row("a", [1], ">=", 2), Row("b", [1], ">=", 3)]), "b")

    def test_whole_variables(self):
        items = [Variable("x", 0, 3, whole=True), Variable("y", 0, 3, whole=True)]
        self.check(Problem(items, [Row("a", [1, 0], ">=", 1), Row("b", [2, 2], "=", 3), Row("c", [1, 1], "<=", 4)]), "b")
        self.check(Problem(items, [Row("a", [2, 2], "<=", 3), Row("b", [2, 2], ">=", 3)]), "a", "b")

    def test_rows_of_zeros(self):
        self.check(Problem([Variable("x")], [Row("a", [0], "<=", 0), Row("b", [0], ">=", 1), Row("c", [1], ">=", 1)]), "b")
        self.check(Problem([Variable("x")], [Row("a", [0], "<=", -1), Row("b", [0], ">=", 1)]), "b")

    def test_aims_have_no_effect(self):
        problem = Problem([Variable("x"), Variable("y")], [Row("a", [1, 0], ">=", 3), Row("b", [1, 0], "<=", 2)], [Aim("max", [0, 1])] * 3)
        self.check(problem, "a", "b")

    def test_not_empty(self):
        for problem in (Problem([Variable("x")]), Problem([Variable("x")], [Row("r", [1], ">=", 1)], [Aim("max", [1])]),
                        Problem([Variable("x", 0, 1, whole=True)], [Row("r", [2], "<=", 1)])):
            self.assertEqual(fault(clash, problem), (NotEmpty, {}))

    def test_chance(self):
        chance = random.Random(77)
        counts = {}
        for _ in range(250):
            problem = some_mixed(chance, 3, 6, whole=3)
            if solve(problem).kind == "empty":
                many = len(self.check(problem))
                counts[many] = counts.get(many, 0) + 1
            else:
                self.assertEqual(fault(clash, problem), (NotEmpty, {}))
        self.assertGreater(counts[2], 5, counts)


if __name__ == "__main__":
    unittest.main()
