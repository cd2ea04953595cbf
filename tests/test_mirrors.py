"""Point 78: the dual problems."""

import random
import unittest

from bestpapers.changes import with_aims
from bestpapers.errors import BadCount
from bestpapers.fracs import Frac
from bestpapers.mirrors import mirror
from bestpapers.problems import Problem
from bestpapers.refusals import IsWhole
from bestpapers.rows import Aim, Row
from bestpapers.solving import solve
from bestpapers.stages import stage_vector
from bestpapers.variables import Variable
from tests.algebra import some_mixed
from tests.helpers import fault, picture, variables


class Mirrors(unittest.TestCase):
    def check(self, problem):
        """Solve a problem and its mirror; return both kinds."""
        before = picture(problem)
        dual = mirror(problem)
        self.assertEqual(picture(problem), before)
        self.assertFalse(any(variable.whole for variable in dual.variables))
        first, second = solve(problem), solve(dual)
        if first.kind == "told":
            self.assertEqual(second.kind, "told")
            self.assertEqual(second.totals[0], stage_vector(problem, first.point)[0])
        elif first.kind == "empty":
            self.assertIn(second.kind, ("empty", "endless"))
        else:
            self.assertEqual(second.kind, "empty")
        return first.kind, second.kind

    def test_each_part(self):
        problem = Problem(
            [Variable("a", 1, 5), Variable("b", None, 6), Variable("c", Frac(-1, 2), None, pull="down")],
            [Row("r", [1, 2, 3], "<=", 7), Row("s", [4, 0, -1], ">=", Frac(1, 3)), Row("t", [0, 5, 6], "=", -8)],
            [Aim("max", [1, -1, 2], 9)],
        )
        self.assertEqual(picture(mirror(problem)), (
            [("y0", None, 0, False, "up"), ("y1", 0, None, False, "down"), ("y2a", 0, None, False, "down"), ("y2b", 0, None, False, "down"),
             ("p0", 0, None, False, "down"), ("q0", 0, None, False, "down"), ("q1", 0, None, False, "down"), ("p2", 0, None, False, "down")],
            [("x0", (1, 4, 0, 0, 1, -1, 0, 0), "=", -1), ("x1", (2, 0, 5, -5, 0, 0, -1, 0), "=", 1), ("x2", (3, -1, 6, -6, 0, 0, 0, 1), "=", -2)],
            [("max", (7, Frac(1, 3), -8, 8, 1, -5, -6, Frac(-1, 2)), -9)],
        ))
        self.check(problem)

    def test_min(self):
        problem = Problem([Variable("x", 0, 3), Variable("y", 0, 3)], [Row("r", [1, 1], ">=", 2)], [Aim("min", [1, 1], 5)])
        self.assertEqual(picture(mirror(problem)), (
            [("y0", 0, None, False, "down")] + [(name, 0, None, False, "down") for name in ("p0", "q0", "p1", "q1")],
            [("x0", (1, 1, -1, 0, 0), "=", 1), ("x1", (1, 0, 0, 1, -1), "=", 1)],
            [("max", (2, 0, -3, 0, -3), 5)],
        ))
        self.assertEqual(solve(mirror(problem)).totals, (7,))

    def test_without_rows(self):
        problem = Problem([Variable("x", 2, None)], [], [Aim("min", [3])])
        self.assertEqual(picture(mirror(problem)), ([("p0", 0, None, False, "down")], [("x0", (1,), "=", 3)], [("max", (2,), 0)]))
        self.assertEqual(self.check(problem), ("told", "told"))
        self.assertEqual(self.check(with_aims(problem, [Aim("max", [3])])), ("endless", "empty"))

    def test_empty_and_endless(self):
        empty = Problem([Variable("x", 0, 1)], [Row("r", [1], ">=", 2)], [Aim("min", [1])])
        self.assertEqual(self.check(empty), ("empty", "endless"))
        both = Problem([Variable("x"), Variable("y")], [Row("r", [1, -1], ">=", 1), Row("s", [-1, 1], ">=", 0)], [Aim("max", [1, 0])])
        self.assertEqual(self.check(both), ("empty", "empty"))
        self.assertEqual(self.check(Problem([Variable("x")], [], [Aim("max", [1])])), ("endless", "empty"))

    def test_as_wide_as_it_can_be(self):
        problem = Problem(variables(5, high=4), [Row(f"r{at}", [1, 2, 1, 1, at], "=", 5) for at in range(3)], [Aim("min", [1] * 5)])
        self.assertEqual(mirror(problem).n, 16)
        self.check(problem)
        problem = Problem(variables(16), [], [Aim("min", [1] * 16)])
        self.assertEqual((mirror(problem).n, mirror(problem).m), (16, 16))
        self.check(problem)

    def test_errors(self):
        aim = Aim("min", [1] * 16)
        rows = [Row("r", [1] * 16, ">=", 1)]
        for aims in ([], [aim], [aim, aim], [aim] * 3):
            whole = variables(14) + [Variable("a", 0, 1, whole=True), Variable("b", 0, 1, whole=True)]
            self.assertEqual(fault(mirror, Problem(whole, rows, aims)), (IsWhole, {"name": "a"}))
            if len(aims) != 1:
                self.assertEqual(fault(mirror, Problem(variables(16), rows, aims)), (BadCount, {"what": "aims", "many": len(aims)}))
        self.assertEqual(fault(mirror, Problem(variables(16), rows, [aim])), (BadCount, {"what": "variables", "many": 17}))
        self.assertEqual(fault(mirror, Problem(variables(16, high=1), [], [aim])), (BadCount, {"what": "variables", "many": 32}))
        wide = Problem(variables(16, high=1), [Row(f"r{at}", [1] * 16, "=", at) for at in range(16)], [aim])
        self.assertEqual(fault(mirror, wide), (BadCount, {"what": "variables", "many": 64}))

    def test_chance(self):
        chance = random.Random(78)
        kinds = {}
        for _ in range(600):
            problem = some_mixed(chance, 3, 3)
            if len(problem.aims) == 1:
                found = self.check(problem)
                kinds[found] = kinds.get(found, 0) + 1
        self.assertEqual(len(kinds), 4, kinds)
        self.assertGreater(min(kinds.values()), 2, kinds)


if __name__ == "__main__":
    unittest.main()
