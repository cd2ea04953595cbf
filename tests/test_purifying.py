"""Points 49 and 50: from a point to a corner, and points as mixtures of corners."""

import random
import unittest

from bestpapers.changes import relaxed
from bestpapers.directions import keeps_boxes
from bestpapers.errors import WrongWidth
from bestpapers.fracs import Frac
from bestpapers.itemrows import item_box, item_row, item_value
from bestpapers.mixtures import mixture
from bestpapers.points import is_feasible
from bestpapers.problems import Problem
from bestpapers.purifying import purified
from bestpapers.refusals import NotFeasible
from bestpapers.rows import Aim, Row
from bestpapers.stages import compare
from bestpapers.variables import Variable
from tests.algebra import plain, rank, some_mixed
from tests.corner_search import corners, extreme_rays, gets_better, is_corner, middle
from tests.helpers import fault, shape

HALF = Frac(1, 2)


def square(aim=(1, 1), sense="min", whole=False):
    return Problem([Variable("x", 0, 3, whole=whole), Variable("y", 0, 3, whole=whole)],
                   [Row("r", [1, 1], "<=", 4)], [Aim(sense, aim)])


def loose(aims=()):
    """x and y from 0 up, and x - y from -1 to 1."""
    return Problem([Variable("x"), Variable("y")], [Row("r", [1, -1], "<=", 1), Row("s", [1, -1], ">=", -1)], aims)


def some_points(chance, problem):
    """Feasible points of a problem without whole numbers: corners, and points between and beyond them."""
    found = corners(problem)
    if not found:
        return []
    some = [chance.choice(found), middle(found), middle([chance.choice(found) for _ in range(2)])]
    for ray in extreme_rays(problem)[:3]:
        times = chance.randint(1, 3)
        some.append(tuple(a + times * b for a, b in zip(some[-1], ray)))
    return some


class Purified(unittest.TestCase):
    def check(self, problem, point):
        found = purified(problem, point)
        self.assertEqual(purified(problem, list(point)), found)
        if found[0] == "ray":
            self.assertEqual(shape(found[1]), ("tuple", ["Frac"] * problem.n))
            self.assertTrue(gets_better(problem, found[1]))
            return found
        word, chosen, sides, corner = found
        self.assertEqual((word, shape(corner)), ("corner", ("tuple", ["Frac"] * problem.n)))
        self.assertEqual((shape(chosen), shape(sides)), (("tuple", ["int"] * problem.n), ("tuple", ["str"] * problem.n)))
        self.assertEqual(list(chosen), sorted(set(chosen)))
        self.assertEqual(rank([item_row(problem, at) for at in chosen]), problem.n)
        for at, side in zip(chosen, sides):
            self.assertIn(side, ("low", "high"))
            self.assertEqual(item_value(problem, at, corner), item_box(problem, at)[0 if side == "low" else 1])
        self.assertTrue(is_corner(problem, corner))
        self.assertNotEqual(compare(problem, corner, point), 1)
        return found

    def test_inside(self):
        self.assertEqual(self.check(square(), (1, 1))[3], (0, 0))
        self.assertEqual(self.check(square(sense="max"), (1, 1))[0], "corner")
        self.assertEqual(self.check(square(sense="max"), (HALF, Frac(1, 3)))[0], "corner")

    def test_at_an_end(self):
        self.check(square(), (0, 1))
        self.check(square(), (3, HALF))
        self.check(square(), (2, 2))
        self.check(square(sense="max"), (2, 2))

    def test_at_a_corner(self):
        for point in ((0, 0), (0, 3), (3, 0), (3, 1), (1, 3)):
            self.assertEqual(self.check(square(), point)[3], point)

    def test_fixed_items(self):
        problem = Problem([Variable("x", 2, 2), Variable("y", 0, 3), Variable("z", 0, 3)],
                          [Row("r", [1, 1, 1], "=", 4)], [Aim("max", [0, 1, 0])])
        for y in (0, HALF, 1, 2):
            self.check(problem, (2, y, 2 - y))

    def test_whole_numbers_do_not_matter(self):
        self.check(square(whole=True), (HALF, HALF))
        problem = Problem([Variable("x", 0, 3, whole=True)], [Row("r", [2], "<=", 3)], [Aim("max", [1])])
        self.assertEqual(self.check(problem, (1,))[3], (Frac(3, 2),))
        self.assertEqual(self.check(problem, (Frac(3, 2),))[3], (Frac(3, 2),))

    def test_rays(self):
        self.assertEqual(self.check(loose([Aim("max", [1, 0])]), (1, 1))[0], "ray")
        self.assertEqual(self.check(loose([Aim("max", [1, -1]), Aim("max", [1, 0])]), (2, 1))[0], "ray")
        self.assertEqual(self.check(loose([Aim("max", [1, -1])]), (2, 2))[0], "corner")
        self.assertEqual(self.check(loose(), (7, 7))[0], "corner")
        free = Problem([Variable("x"), Variable("y", None, 0)])
        self.assertEqual(self.check(free, (5, -5)), ("corner", (0, 1), ("low", "high"), (0, 0)))

    def test_aims_that_are_zero_in_every_direction(self):
        problem = Problem([Variable("x", 1, 1), Variable("y", 0, 3), Variable("z", 0, 3)],
                          [Row("r", [0, 1, 1], "=", 3)], [Aim("max", [5, 0, 0]), Aim("min", [0, 2, 2])])
        self.assertEqual(self.check(problem, (1, 1, 2))[3], (1, 0, 3))
        problem = Problem(problem.variables, problem.rows, [Aim("max", [5, 0, 0]), Aim("min", [0, 2, 2]), Aim("max", [0, 1, 0])])
        self.assertEqual(self.check(problem, (1, 1, 2))[3], (1, 3, 0))

    def test_many_problems(self):
        chance = random.Random(49)
        words = []
        for _ in range(150):
            problem = some_mixed(chance, 3, 3, whole=2)
            for point in some_points(chance, problem):
                words.append(self.check(problem, point)[0])
        self.assertGreater(words.count("corner"), 100)
        self.assertGreater(words.count("ray"), 10)

    def test_errors(self):
        for call in (purified, mixture):
            for many in (0, 1, 3):
                self.assertEqual(fault(call, square(), (9,) * many), (WrongWidth, {"have": many, "need": 2}))
            for point in ((4, 0), (-1, 0), (3, Frac(3, 2)), (0, 3 + Frac(1, 10 ** 40))):
                self.assertEqual(fault(call, square(), point), (NotFeasible, {}))
            self.assertIsNone(fault(call, square(), (3, 1)))


class Mixtures(unittest.TestCase):
    def check(self, problem, point):
        weights, found, ray = mixture(problem, point)
        self.assertTrue(1 <= len(weights) == len(found) <= problem.n + 1)
        self.assertEqual(shape((weights, ray)), ("tuple", [("tuple", ["Frac"] * len(weights)),
                                                           ("tuple", ["Frac"] * problem.n)]))
        self.assertEqual(shape(found), ("tuple", [("tuple", ["Frac"] * problem.n)] * len(found)))
        self.assertTrue(all(weight > 0 for weight in weights))
        self.assertEqual(sum(map(plain, weights)), 1)
        self.assertTrue(all(is_corner(problem, corner) for corner in found))
        self.assertTrue(keeps_boxes(problem, ray))
        for at in range(problem.n):
            total = sum(plain(weight) * plain(corner[at]) for weight, corner in zip(weights, found))
            self.assertEqual(total + plain(ray[at]), plain(point[at]))
        return weights, found, ray

    def test_a_corner(self):
        for point in ((0, 0), (3, 1), (1, 3)):
            self.assertEqual(self.check(square(), point), ((1,), (point,), (0, 0)))

    def test_inside(self):
        self.check(square(), (1, 1))
        self.check(square(), (HALF, Frac(7, 3)))
        weights, found, ray = self.check(square(), (2, 2))
        self.assertEqual((weights, sorted(found), ray), ((HALF, HALF), [(1, 3), (3, 1)], (0, 0)))

    def test_rays(self):
        weights, found, ray = self.check(loose(), (5, 5))
        self.assertTrue(any(ray))
        self.check(loose([Aim("max", [1, 0])]), (5, Frac(11, 2)))
        self.check(loose([Aim("max", [1, 1])]), (0, HALF))
        one = Problem([Variable("x", None, 4)])
        self.assertEqual(self.check(one, (1,)), ((1,), ((4,),), (-3,)))

    def test_whole_numbers_do_not_matter(self):
        self.check(square(whole=True), (HALF, HALF))

    def test_many_problems(self):
        chance = random.Random(50)
        lengths = []
        for _ in range(400):
            problem = some_mixed(chance, 3, 3, whole=2)
            for point in some_points(chance, problem):
                self.assertTrue(is_feasible(relaxed(problem), point))
                weights, _, ray = self.check(problem, point)
                lengths.append((len(weights), any(ray)))
        for kind in ((1, False), (2, False), (3, False), (1, True), (2, True)):
            self.assertGreater(lengths.count(kind), 4, kind)


if __name__ == "__main__":
    unittest.main()
