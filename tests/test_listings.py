"""Points 42 and 64: listings and their judge."""

import itertools
import random
import unittest

from bestpapers.errors import NotAllWhole
from bestpapers.fracs import Frac
from bestpapers.listings import Listing, judge_listing
from bestpapers.problems import Problem
from bestpapers.rows import Aim, Row
from bestpapers.stages import stage_vector
from bestpapers.variables import Variable
from tests.helpers import fault, shape
from tests.test_judging import some_problem
from tests.whole_papers import feasible_points, leaf


def little():
    """Its points in order: (0, 1), (1, 1), (0, 0), (1, 0), (2, 0)."""
    return Problem([Variable("x", 0, 2, whole=True), Variable("y", 0, 1, whole=True)],
                   [Row("r", [1, 1], "<=", 2)], [Aim("max", [0, 1])])


POINTS = ((0, 1), (1, 1), (0, 0), (1, 0), (2, 0))


def listing_paper(problem, points, targets, chosen=()):
    """A paper that halves a problem until each leaf holds one point, which is listed or not."""
    at = len(chosen)
    if at == problem.n:
        return ("listed", points.index(chosen)) if chosen in points else leaf(problem, chosen, targets)
    low, high = problem.variables[at].low.num, problem.variables[at].high.num
    paper = listing_paper(problem, points, targets, chosen + (high,))
    for value in range(high - 1, low - 1, -1):
        paper = ("branch", at, value, listing_paper(problem, points, targets, chosen + (value,)), paper)
    return paper


class Judging(unittest.TestCase):
    def check(self, points, complete, paper, expected, problem=None):
        problem = problem or little()
        self.assertIs(judge_listing(problem, points, complete, paper), expected)
        self.assertIs(judge_listing(problem, [list(point) for point in points], complete, paper), expected)
        fracs = tuple(tuple(Frac(1) * number for number in point) for point in points)
        self.assertIs(judge_listing(problem, fracs, complete, paper), expected)

    def paper(self, points, complete, problem=None):
        problem = problem or little()
        targets = None if complete or not points else stage_vector(problem, points[-1])
        return listing_paper(problem, points, targets)

    def test_first_ones_and_all(self):
        for many in range(1, 6):
            self.check(POINTS[:many], False, self.paper(POINTS[:many], False), True)
        self.check(POINTS, True, self.paper(POINTS, True), True)

    def test_not_complete(self):
        for many in range(5):
            self.check(POINTS[:many], True, self.paper(POINTS[:many], True), False)
            self.check(POINTS[:many], True, self.paper(POINTS[:many], False), False)

    def test_floors_only_where_it_is_not_complete(self):
        paper = self.paper(POINTS[:4], False)
        self.check(POINTS[:4], False, paper, True)
        self.check(POINTS[:4], True, paper, False)

    def test_a_point_left_out(self):
        for out in range(5):
            points = POINTS[:out] + POINTS[out + 1:]
            self.check(points, True, self.paper(points, True), False)
            self.check(points, False, self.paper(points, False), out == 4)

    def test_twice_or_in_another_order(self):
        for points in itertools.permutations(POINTS, 3):
            expected = list(points) == list(POINTS[:3])
            self.check(points, False, self.paper(points, False), expected)
        for points in ((POINTS[0], POINTS[0]), POINTS + POINTS[4:], POINTS[:1] + POINTS):
            self.check(points, False, self.paper(points, False), False)
            self.check(points, True, self.paper(points, True), False)

    def test_points_that_are_none(self):
        paper = self.paper(POINTS, True)
        for at, wrong in itertools.product(range(5), ((), (0,), (0, 1, 0), (2, 1), (-1, 0), (Frac(1, 2), 0))):
            points = POINTS[:at] + (wrong,) + POINTS[at + 1:]
            for complete in (True, False):
                self.check(points, complete, paper, False)

    def test_no_points(self):
        none = Problem(little().variables, [Row("r", [1, 1], ">=", 4)])
        paper = listing_paper(none, (), None)
        self.check((), True, paper, True, none)
        self.check((), False, paper, False, none)
        self.check((), True, ("empty", (1,)), True, none)
        self.check((), False, ("empty", (1,)), False, none)
        self.check((), True, ("empty", (0,)), False, none)
        self.check((), True, self.paper((), True), False)

    def test_indexes(self):
        one = Problem([Variable("x", 0, 1, whole=True)])
        for low, high in itertools.product(range(-3, 4), repeat=2):
            paper = ("branch", 0, 0, ("listed", low), ("listed", high))
            self.check(((0,), (1,)), True, paper, (low, high) == (0, 1), one)

    def test_a_box_that_is_not_one_point(self):
        one = Problem([Variable("x", 0, 1, whole=True)])
        self.check(((0,), (1,)), True, ("listed", 0), False, one)
        fixed = Problem([Variable("x", 1, 1, whole=True), Variable("y", 0, 1, whole=True)])
        self.check(((1, 0), (1, 1)), True, ("branch", 1, 0, ("listed", 0), ("listed", 1)), True, fixed)
        self.check(((1, 0), (1, 1)), True, ("branch", 1, 0, ("listed", 0), ("listed", 0)), False, fixed)
        point = Problem([Variable("x", 1, 1, whole=True)])
        self.check(((1,),), True, ("listed", 0), True, point)
        self.check(((1,),), False, ("listed", 0), True, point)

    def test_a_paper_that_does_not_fit(self):
        point = Problem([Variable("x", 1, 1, whole=True)], [Row("r", [1], "<=", 2)])
        self.check(((1,),), True, ("listed", 0), True, point)
        self.check(((1,),), True, ("derive", (1,), 0, ("rounded", (0,)), ("listed", 0)), True, point)
        self.check(((1,),), True, ("derive", (1,), 0, ("rounded", ()), ("listed", 0)), False, point)
        self.check(((1,),), True, ("derive", (1,), 2, ("rounded", (0,)), ("listed", 0)), False, point)
        self.check(((1,),), True, ("branch", 1, 0, ("listed", 0), ("listed", 0)), False, point)
        self.check(((1,),), False, ("floors", (((), (1, 1)),)), False, point)

    def test_not_all_whole(self):
        for kinds in ((True, False), (False, True), (False, False)):
            problem = Problem([Variable(name, 0, 1, whole=whole) for name, whole in zip("xy", kinds)])
            for points in ((), ((0,),), ((0, 0),)):
                for complete in (True, False):
                    self.assertEqual(fault(judge_listing, problem, points, complete, ("empty", (1, 2))),
                                     (NotAllWhole, {}))

    def test_against_all_points(self):
        chance = random.Random(42)
        for _ in range(60):
            problem = some_problem(chance)
            points = feasible_points(problem)
            many = chance.randint(0, len(points))
            complete = chance.choice((True, False))
            paper = self.paper(points[:many], complete, problem)
            expected = many == len(points) if complete else many > 0
            self.check(points[:many], complete, paper, expected, problem)


class Listings(unittest.TestCase):
    def test_attributes(self):
        paper = ("listed", 0)
        for points in ([[0, 1], (Frac(1, 2), 3)], ((0, 1), [Frac(1, 2), Frac(3)])):
            listing = Listing(points, True, paper)
            self.assertEqual(listing.points, ((0, 1), (Frac(1, 2), 3)))
            self.assertEqual(shape(listing.points), ("tuple", [("tuple", ["Frac", "Frac"])] * 2))
            self.assertIs(listing.complete, True)
            self.assertIs(listing.paper, paper)
        empty = Listing([], False, ("empty", (1,)))
        self.assertEqual((empty.points, empty.complete, empty.paper), ((), False, ("empty", (1,))))

    def test_lists_that_change_later(self):
        points = [[0, 1], [2, 3]]
        listing = Listing(points, False, ("listed", 0))
        points[0][0] = 9
        points.append([5, 5])
        self.assertEqual(listing.points, ((0, 1), (2, 3)))


if __name__ == "__main__":
    unittest.main()
