"""Point 38: the judge."""

import random
import unittest

from bestpapers.answers import Answer
from bestpapers.fracs import Frac
from bestpapers.judges import judge
from bestpapers.points import aim_values
from bestpapers.problems import Problem
from bestpapers.rows import Aim, Row
from bestpapers.stages import stage_vector
from bestpapers.variables import Variable
from tests.helpers import HUGE, variables
from tests.test_judging import LINES, corner, floors, some_problem
from tests.whole_papers import feasible_points, full_paper, whole_points

HALF = Frac(1, 2)
LITTLE = Frac(1, HUGE)
LENGTHS = ([], [0], [0, 2, 0], [0, 2, 0, 2], [0] * 24)


def loose():
    """x grows without end; y from 0 to 4, and the aims: max y, max x, min x."""
    return Problem([Variable("x"), Variable("y", 0, 4)], [Row("r", [-1, 1], "<=", 3)],
                   [Aim("max", [0, 1], 10), Aim("max", [1, 0]), Aim("min", [1, 0], 5)])


class Judging(unittest.TestCase):
    def check(self, problem, answer, expected):
        self.assertIs(judge(problem, answer), expected)


class Told(Judging):
    def told(self, totals=(2,), point=(0, 2), paper=floors(*LINES), problem=None, expected=False):
        self.check(problem or corner(), Answer.told(totals, point, paper), expected)

    def test_accepted(self):
        self.told(expected=True)
        self.told([2], [0, 2], expected=True)
        self.told([Frac(2)], [Frac(0), 2], expected=True)

    def test_the_paper_must_show_all_stages(self):
        for many in range(3):
            self.told(paper=floors(*LINES[:many]))
        self.told(paper=("empty", (1,)))
        self.told(paper=("listed", 0))
        self.told(paper=floors(*LINES[:2], ((0, 0), (0,))))
        self.told(paper=floors(*LINES[:2], ((0, -1), (1, 0))))

    def test_totals(self):
        for totals in ((), (2, 0), (2, 0, 2), (3,), (1,), (2 + LITTLE,), (-2,)):
            self.told(totals)

    def test_another_point(self):
        self.told((2,), (1, 1))
        self.told((2,), (2, 0))
        self.told((3,), (0, 3))

    def test_not_feasible(self):
        lines = floors(((), (0,)), ((0,), (0,)), ((0, 0), (0,)))
        bare = Problem([Variable("x", 0, 3), Variable("y", 0, 3)], [Row("r", [1, 1], "<=", 2)], [Aim("min", [1, 1])])
        self.told((0,), (0, 0), lines, bare, True)
        self.told((0,), (0, 0), lines)
        whole = Problem([Variable("x", 0, 3, whole=True)])
        line = floors(((), ()))
        self.told((), (0,), line, whole, True)
        self.told((), (-1,), line, whole)
        self.told((), (-HALF,), line, whole)

    def test_a_point_that_is_not_whole(self):
        problem = Problem([Variable("x", 0, 3, whole=True)], [Row("r", [2], ">=", 1)])
        line = floors(((), (HALF,)))
        self.told((), (HALF,), line, problem)
        self.told((), (HALF,), line, Problem([Variable("x", 0, 3)], problem.rows), True)

    def test_lengths(self):
        for point in LENGTHS:
            self.told(point=point)
            self.told(totals=(), point=point)

    def test_without_aims(self):
        problem = Problem([Variable("x", 0, 3), Variable("y", 0, 3, pull="up")])
        paper = floors(((), ()), ((0,), ()))
        self.told((), (0, 3), paper, problem, True)
        self.told((), (0, 2), paper, problem)
        self.told((0,), (0, 3), paper, problem)

    def test_a_max_aim_with_a_constant(self):
        problem = Problem([Variable("x", 0, 3)], [], [Aim("max", [2], 5)])
        paper = floors(((), ()), ((-HALF,), ()))
        self.told((11,), (3,), paper, problem, True)
        self.told((-11,), (3,), paper, problem)
        self.told((6,), (3,), paper, problem)


class Best(Judging):
    def best(self, totals=(2,), point=(0, 2), paper=floors(*LINES[:1]), problem=None, expected=False):
        self.check(problem or corner(), Answer.best(totals, point, paper), expected)

    def test_accepted(self):
        self.best(expected=True)
        self.best(point=(1, 1), expected=True)
        self.best([2], [HALF, Frac(3, 2)], expected=True)

    def test_the_paper_must_show_the_aims_alone(self):
        for many in (0, 2, 3):
            self.best(paper=floors(*LINES[:many]))
        self.best(paper=("empty", (1,)))
        self.best(paper=floors(((), (0,))))
        self.check(corner(), Answer.told((2,), (0, 2), floors(LINES[0])), False)

    def test_not_best(self):
        self.best((3,), (0, 3))
        self.best((2 + LITTLE,), (LITTLE, 2))

    def test_not_feasible(self):
        self.best((2,), (-1, 3))
        self.best((1,), (0, 1))
        self.best((2,), (4, -2))

    def test_totals(self):
        for totals in ((), (3,), (2 - LITTLE,), (2, 2)):
            self.best(totals)

    def test_lengths(self):
        for point in LENGTHS:
            self.best(point=point)

    def test_without_aims(self):
        problem = Problem([Variable("x", 0, 3)])
        self.best((), (2,), floors(), problem, True)
        self.best((), (4,), floors(), problem)
        self.best((), (2,), floors(((), ())), problem)

    def test_two_aims(self):
        problem = Problem([Variable("x", 0, 3), Variable("y", 0, 3)], [],
                          [Aim("max", [1, 0]), Aim("min", [1, 1], 1)])
        paper = floors(((), ()), ((-1,), ()))
        self.best((3, 4), (3, 0), paper, problem, True)
        self.best((3, 5), (3, 1), paper, problem)
        self.best((2, 3), (2, 0), paper, problem)


class Empty(Judging):
    def test_the_example(self):
        problem = Problem([Variable("x", 0, 1)], [Row("r", [1], ">=", 2)])
        self.check(problem, Answer.empty(("empty", (1,))), True)
        self.check(problem, Answer.empty(("empty", (0,))), False)

    def test_papers(self):
        problem = Problem([Variable("x", 0, 1)], [Row("r", [1], ">=", 2)], [Aim("min", [1])])
        for paper in (("empty", (-1,)), ("empty", (1, 0)), ("empty", ()), floors(((), (1,))), floors(), ("listed", 0)):
            self.check(problem, Answer.empty(paper), False)
        self.check(corner(), Answer.empty(("empty", (1,))), False)


class Endless(Judging):
    def endless(self, at=1, totals=(14,), point=(2, 4), ray=(1, 0), paper=floors(((), (0,))), expected=False,
                problem=None):
        self.check(problem or loose(), Answer.endless(at, totals, point, ray, paper), expected)

    def test_accepted(self):
        self.endless(expected=True)
        self.endless(1, [Frac(14)], [1, 4], [HALF, 0], expected=True)

    def test_at_zero(self):
        problem = Problem([Variable("x"), Variable("y")], [Row("r", [1, -1], "<=", 1)], [Aim("max", [1, 0], 3)])
        for ray, expected in (((1, 1), True), ((1, 2), True), ((1, 1 - LITTLE), False), ((0, 1), False),
                              ((-1, 0), False), ((0, 0), False), ((2, 1), False)):
            self.endless(0, (), (0, 0), ray, floors(), expected, problem)
        self.endless(0, (), (2, 0), (1, 1), floors(), False, problem)
        self.endless(0, (3,), (0, 0), (1, 1), floors(), False, problem)
        self.endless(0, (), (0, 0), (1, 1), floors(((), (0,))), False, problem)

    def test_at(self):
        for at in (-HUGE, -2, -1, 3, 4, 5, HUGE):
            self.endless(at)
            self.endless(at, ())
        self.endless(0)
        self.endless(2)
        self.endless(2, (14, 2), (2, 4), (1, 0), floors(((), (0,)), ((0,), (0,))))

    def test_no_aims(self):
        problem = Problem(variables(1))
        for at in (-1, 0, 1):
            self.endless(at, (), (0,), (1,), floors(), False, problem)

    def test_at_below_zero_with_an_endless_pull(self):
        problem = Problem([Variable("x")], [], [Aim("max", [1])])
        self.endless(0, (), (0,), (1,), floors(), True, problem)
        self.endless(-1, (), (0,), (1,), floors(), False, problem)
        self.endless(-2, (), (0,), (1,), floors(), False, problem)

    def test_totals(self):
        for totals in ((), (4,), (14, 2), (14 + LITTLE,), (-14,), (14, 2, 7)):
            self.endless(totals=totals)

    def test_point(self):
        self.endless(point=(HALF, 4))
        self.endless(point=(-1, 4))
        self.endless(totals=(15,), point=(5, 5))
        self.endless(totals=(13,), point=(2, 3))
        for point in LENGTHS:
            self.endless(point=point)

    def test_ray(self):
        for ray in ((0, 0), (-1, 0), (1, 1), (1, -1), (1, LITTLE), (0, 1), (0, -1)):
            self.endless(ray=ray)
        for ray in ([], [1], [1, 0, 0], [0] * 24, [1] + [0] * 23):
            self.endless(ray=ray)

    def test_the_ray_keeps_the_aims_before(self):
        aims = [Aim("max", [0, 1, 1]), Aim("min", [1, 0, 0]), Aim("max", [0, 0, 1])]
        problem = Problem([Variable("x", -9, 9), Variable("y", None, 0), Variable("z")],
                          [Row("r", [0, 1, 1], "<=", 3)], aims)
        paper = floors(((), (-1,)), ((0,), (0,)))
        for ray, expected in (((0, -1, 1), True), ((0, -2, 1), False), ((0, 0, 1), False), ((0, -1, 0), False),
                              ((1, -1, 1), False), ((0, -1, 2), False)):
            self.endless(2, (3, -9), (-9, 0, 3), ray, paper, expected, problem)
        self.endless(2, (3, -8), (-8, 0, 3), (0, -1, 1), paper, False, problem)
        self.endless(2, (3, -9), (-9, 0, 3), (0, -1, 1), floors(((), (-1,))), False, problem)

    def test_the_aim_must_get_better(self):
        problem = Problem([Variable("x"), Variable("y")], [], [Aim("min", [1, -1])])
        for ray, expected in (((0, 1), True), ((1, 2), True), ((1, 1 + LITTLE), True), ((1, 1), False),
                              ((1, 0), False)):
            self.endless(0, (), (0, 0), ray, floors(), expected, problem)

    def test_box_rules_of_each_item(self):
        for kind, good, bad in (
            (Variable("x", 0, None), 1, -1), (Variable("x", None, 0), -1, 1),
        ):
            aim = [Aim("max", [good, 0], 0)]
            problem = Problem([kind, Variable("y", 0, 0)], [], aim)
            self.endless(0, (), (0, 0), (good, 0), floors(), True, problem)
            self.endless(0, (), (0, 0), (good, LITTLE), floors(), False, problem)
            self.endless(0, (), (0, 0), (good, -LITTLE), floors(), False, problem)
            turned = Problem([kind, Variable("y", 0, 0)], [], [Aim("max", [bad, 0], 0)])
            self.endless(0, (), (0, 0), (bad, 0), floors(), False, turned)
        for sense, rays in (("<=", (-1, 0)), (">=", (1, 0)), ("=", (0,))):
            problem = Problem([Variable("x"), Variable("y"), Variable("z")], [Row("r", [1, -1, 0], sense, 0)],
                              [Aim("max", [0, 0, 1])])
            for step in (-1, 0, 1):
                ray = (1 + step, 1, 1)
                self.endless(0, (), (0, 0, 0), ray, floors(), step in rays, problem)

    def test_the_paper(self):
        for paper in (floors(), floors(((), (1,))), floors(((), (-1,))), floors(((), (0,)), ((0,), (0,))),
                      ("empty", (0,)), ("listed", 0), floors(((), ()))):
            self.endless(paper=paper)


class Claims(unittest.TestCase):
    def test_against_all_points(self):
        chance = random.Random(38)
        told = 0
        for _ in range(60):
            problem = some_problem(chance)
            points = feasible_points(problem)
            empty = judge(problem, Answer.empty(full_paper(problem, None)))
            self.assertIs(empty, points == [])
            for point in whole_points(problem):
                vector = stage_vector(problem, point)
                totals = aim_values(problem, point)
                answer = Answer.told(totals, point, full_paper(problem, vector))
                right = points != [] and point == points[0]
                told += right
                self.assertIs(judge(problem, answer), right)
                many = len(problem.aims)
                answer = Answer.best(totals, point, full_paper(problem, vector[:many]))
                best = point in points and vector[:many] == stage_vector(problem, points[0])[:many]
                self.assertIs(judge(problem, answer), best)
        self.assertGreater(told, 20)


if __name__ == "__main__":
    unittest.main()
