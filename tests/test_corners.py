"""Point 59: the plain way over all corners."""

import math
import random
import unittest

from bestpapers.corners import by_corners
from bestpapers.fracs import Frac
from bestpapers.problems import Problem
from bestpapers.refusals import IsWhole, TooMany
from bestpapers.rows import Aim, Row
from bestpapers.variables import Variable
from tests.algebra import some_mixed
from tests.corner_search import corners
from tests.helpers import fault, shape, variables


def wide(n, m):
    return Problem(variables(n, high=1), [Row(f"r{at}", [1] * n, "<=", n) for at in range(m)])


class Corners(unittest.TestCase):
    def test_against_a_search(self):
        chance = random.Random(59)
        kinds = {"none": 0, "some": 0}
        for _ in range(250):
            problem = some_mixed(chance, 3, 3)
            found = corners(problem)
            point = by_corners(problem)
            self.assertEqual(point, found[0] if found else None)
            self.assertEqual(shape(point), ("tuple", ["Frac"] * problem.n) if found else "NoneType")
            kinds["some" if found else "none"] += 1
        self.assertGreater(min(kinds.values()), 30)

    def test_the_document(self):
        problem = Problem([Variable("x", 0, 3), Variable("y", 0, 3)], [Row("r", [1, 1], ">=", 2)], [Aim("min", [1, 1])])
        self.assertEqual(by_corners(problem), (0, 2))

    def test_without_a_feasible_corner(self):
        problem = Problem([Variable("x", 0, 1)], [Row("r", [1], ">=", 2)])
        self.assertIsNone(by_corners(problem))
        self.assertIsNone(by_corners(Problem(variables(1), [Row("r", [0], "=", 1)])))

    def test_endless(self):
        problem = Problem(variables(1), (), [Aim("max", [1])])
        self.assertEqual(by_corners(problem), (0,))

    def test_whole(self):
        items = [Variable("a", 0, 1), Variable("b", 0, 1, whole=True), Variable("c", 0, 1, whole=True)]
        self.assertEqual(fault(by_corners, Problem(items)), (IsWhole, {"name": "b"}))
        many = [Row(f"r{at}", [1, 1, 1], "<=", Frac(at, 2)) for at in range(16)]
        self.assertEqual(fault(by_corners, Problem(items, many)), (IsWhole, {"name": "b"}))

    def test_too_many(self):
        for n, m in ((1, 16), (2, 16), (3, 12), (3, 13), (4, 6), (4, 7), (5, 3), (5, 4), (6, 2), (6, 3), (8, 1),
                     (9, 0), (11, 0), (12, 0), (16, 0), (16, 16), (10, 1), (7, 2)):
            many = math.comb(n + m, n) * 2 ** n
            expected = (TooMany, {"many": many, "most": 4000}) if many > 4000 else None
            self.assertEqual(fault(by_corners, wide(n, m)), expected, (n, m))

    def test_near_the_limit(self):
        counts = {math.comb(n + m, n) * 2 ** n: (n, m) for n in range(1, 17) for m in range(17)}
        below = max(many for many in counts if many <= 4000)
        above = min(many for many in counts if many > 4000)
        self.assertIsNone(fault(by_corners, wide(*counts[below])))
        self.assertEqual(fault(by_corners, wide(*counts[above])), (TooMany, {"many": above, "most": 4000}))


if __name__ == "__main__":
    unittest.main()
