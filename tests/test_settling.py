"""Point 87: from any feasible point to the told answer."""

import random
import unittest

from bestpapers.answers import Answer
from bestpapers.cheapest import cheapest_flow
from bestpapers.fracs import Frac
from bestpapers.judges import judge
from bestpapers.paperforms import fits
from bestpapers.points import aim_values
from bestpapers.problems import Problem
from bestpapers.refusals import IsWhole, NotFeasible
from bestpapers.rows import Aim, Row
from bestpapers.settling import settled
from bestpapers.solving import solve
from bestpapers.variables import Variable
from bestpapers.webproblems import web_problem
from tests.algebra import some_mixed
from tests.corner_search import corners, extreme_rays, middle
from tests.helpers import fault, picture, shape
from tests.made_papers import numbers_in
from tests.some_webs import some_web
from tests.test_solving import claim

NONE = ("floors", ())


def square():
    return Problem([Variable("x", 0, 3), Variable("y", 0, 3)], [Row("r", [1, 1], ">=", 2)], [Aim("min", [1, 1])])


def loose():
    """Aim 0 is best where y is 4, and aim 1 is endless there."""
    return Problem([Variable("x"), Variable("y", 0, 4)], [Row("r", [-1, 1], "<=", 3)],
                   [Aim("max", [0, 1], 10), Aim("max", [1, 0]), Aim("min", [1, 0])])


class Settling(unittest.TestCase):
    def check(self, problem, answer):
        before, kept = picture(problem), vars(answer).copy()
        found = settled(problem, answer)
        self.assertEqual((picture(problem), vars(answer)), (before, kept))
        self.assertIsInstance(found, Answer)
        self.assertEqual(claim(found), claim(solve(problem)))
        self.assertIs(judge(problem, found), True)
        self.assertTrue(fits(problem, found.paper))
        self.assertEqual({shape(number) for number in numbers_in(found.paper)[1]} - {"Frac"}, set())
        self.assertEqual(shape(found.point), ("tuple", ["Frac"] * problem.n))
        if found.ray is not None:
            self.assertEqual((shape(found.ray), shape(found.at)), (("tuple", ["Frac"] * problem.n), "int"))
        return found

    def check_point(self, problem, point, paper=NONE):
        """The kind, the totals and the paper of the passed answer do not matter."""
        found = [self.check(problem, make(totals, point, paper))
                 for make in (Answer.told, Answer.best) for totals in ((), aim_values(problem, point))]
        return found[0]

    def test_points_of_every_kind(self):
        for point in ((0, 2), (2, 0), (3, 3), (0, 3), (1, 1), (Frac(5, 2), Frac(7, 3)), (Frac(1, 3), Frac(5, 3)), [2, 2]):
            self.assertEqual(self.check_point(square(), point).point, (0, 2))
        self.check(square(), solve(square()))

    def test_endless(self):
        for point in ((1, 4), (9, 4), (0, 0), (0, 3), (5, 2), (Frac(1, 2), Frac(1, 3))):
            found = self.check_point(loose(), point)
            self.assertEqual(claim(found), ("endless", (14,), (1, 4), 1))
        problem = Problem([Variable("x"), Variable("y")], [], [Aim("max", [1, 1])])
        for point in ((0, 0), (3, 0), (0, 4), (2, 7)):
            self.assertEqual(claim(self.check_point(problem, point)), ("endless", (), (0, 0), 0))

    def test_rays_that_better_a_later_stage_only(self):
        """From this point a ray betters aim 1, but aim 0 has no end, either."""
        problem = Problem([Variable("x"), Variable("y"), Variable("z", 0, 5)], [], [Aim("max", [0, 1, 0]), Aim("max", [1, 0, 0])])
        for point in ((0, 0, 1), (1, 2, 3), (Frac(1, 2), 0, 0)):
            self.assertEqual(claim(self.check_point(problem, point)), ("endless", (), (0, 0, 0), 0))

    def test_without_aims(self):
        problem = Problem([Variable("x", 0, 3, pull="up"), Variable("y", None, 5)], [Row("r", [1, 1], "=", 4)])
        for point in ((0, 4), (3, 1), (1, 3), (Frac(1, 2), Frac(7, 2))):
            self.assertEqual(self.check_point(problem, point).point, (3, 1))

    def test_answers_of_webs(self):
        chance = random.Random(87)
        found = 0
        for _ in range(150):
            web = some_web(chance, wide=1)
            answer = cheapest_flow(web)
            if answer.kind == "best":
                self.check(web_problem(web), answer)
                found += 1
        self.assertGreater(found, 50)

    def test_chance(self):
        chance = random.Random(88)
        kinds = {}
        for _ in range(250):
            problem = some_mixed(chance, 3, 3, 2)
            points, rays = corners(problem), extreme_rays(problem)
            if not points:
                continue
            starts = [chance.choice(points), middle(points), middle(chance.sample(points, (len(points) + 1) // 2))]
            if rays:
                ray, length = chance.choice(rays), chance.choice((1, Frac(5, 3)))
                starts.append(tuple(a + length * b for a, b in zip(middle(points), ray)))
            for start in starts:
                kind = self.check_point(problem, start).kind
                kinds[kind] = kinds.get(kind, 0) + 1
        self.assertGreater(min(kinds["told"], kinds["endless"]), 50)

    def test_whole_variables_first(self):
        problem = Problem([Variable("x", 0, 1), Variable("y", 0, 1, whole=True), Variable("z", 0, 1, whole=True)])
        for answer in (Answer.empty(NONE), Answer.told((), (0, 0), NONE), Answer.best((), (0, 0, 0), NONE), Answer.told((), (0, 9, 0), NONE)):
            self.assertEqual(fault(settled, problem, answer), (IsWhole, {"name": "y"}))

    def test_not_feasible(self):
        for answer in (Answer.empty(("empty", (1,))), Answer.endless(0, (), (1, 1), (1, 0), NONE), Answer.told((), (), NONE),
                       Answer.told((2,), (1,), NONE), Answer.best((2,), (0, 2, 0), NONE), Answer.told((2,), (0, 1), NONE),
                       Answer.best((2,), (4, 0), NONE), Answer.told((2,), (Frac(-1, 2), 3), NONE)):
            self.assertEqual(fault(settled, square(), answer), (NotFeasible, {}))
        empty = Problem([Variable("x", 0, 1)], [Row("r", [1], ">=", 2)])
        self.assertEqual(fault(settled, empty, Answer.told((), (1,), NONE)), (NotFeasible, {}))


if __name__ == "__main__":
    unittest.main()
