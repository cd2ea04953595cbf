"""Point 64: the first points of problems in which all variables are whole."""

import random
import unittest

from bestpapers.errors import BadCount, NotAllWhole
from bestpapers.firstpoints import first_points
from bestpapers.listings import Listing, judge_listing
from bestpapers.paperforms import fits, paper_counts, paper_depth
from bestpapers.problems import Problem
from bestpapers.rows import Aim, Row
from bestpapers.variables import Variable
from tests.algebra import some_mixed
from tests.helpers import HUGE, fault, picture, shape
from tests.made_papers import numbers_in
from tests.test_judging import some_problem
from tests.test_listings import POINTS, little
from tests.whole_papers import feasible_points


class FirstPoints(unittest.TestCase):
    def check(self, problem, many):
        """List the first points, and look at all that holds for every listing."""
        expected = feasible_points(problem)
        listing = first_points(problem, many)
        self.assertIsInstance(listing, Listing)
        self.assertEqual(listing.points, tuple(expected[:many]))
        self.assertEqual(shape(listing.points), ("tuple", [("tuple", ["Frac"] * problem.n)] * len(expected[:many])))
        self.assertIs(listing.complete, len(expected) < many)
        self.assertTrue(fits(problem, listing.paper))
        self.assertIs(judge_listing(problem, listing.points, listing.complete, listing.paper), True)
        self.check_paper(problem, listing)
        for out in range(len(listing.points)):
            less = listing.points[:out] + listing.points[out + 1:]
            self.assertIs(judge_listing(problem, less, listing.complete, listing.paper), False)
        return listing

    def check_paper(self, problem, listing):
        counts = paper_counts(listing.paper)
        self.assertEqual(counts["listed"], len(listing.points))
        self.assertLessEqual(sum(counts.values()), min(4000, 2 * problem.assignments - 1))
        self.assertLessEqual(paper_depth(listing.paper), 199)
        if listing.complete:
            self.assertEqual(counts["floors"], 0)
        whole, numbers = numbers_in(listing.paper)
        self.assertEqual({part.__class__.__name__ for part in whole} - {"int"}, set())
        self.assertEqual({part.__class__.__name__ for part in numbers} - {"Frac"}, set())

    def test_every_number_of_points(self):
        for many in range(1, 9):
            listing = self.check(little(), many)
            self.assertEqual(listing.points, POINTS[:many])
            self.assertEqual(listing.complete, many > 5)

    def test_just_as_many_as_there_are(self):
        problem = Problem([Variable("x", 3, 10, whole=True)])
        for many in range(1, 9):
            self.assertFalse(self.check(problem, many).complete)
        problem = Problem([Variable("x", 3, 9, whole=True)])
        self.assertTrue(self.check(problem, 8).complete)
        self.assertFalse(self.check(problem, 7).complete)

    def test_no_points(self):
        for rows in ([Row("r", [2, 2], "=", 3)], [Row("r", [1, 1], ">=", 9)], [Row("r", [0, 0], ">=", 1)]):
            problem = Problem([Variable("x", 0, 2, whole=True), Variable("y", 0, 2, whole=True)], rows)
            for many in (1, 2, 8):
                listing = self.check(problem, many)
                self.assertEqual((listing.points, listing.complete), ((), True))

    def test_one_point(self):
        problem = Problem([Variable("x", 2, 2, whole=True), Variable("y", 0, 3, whole=True)], [Row("r", [1, 1], "=", 4)])
        self.assertEqual(self.check(problem, 1).points, ((2, 2),))
        self.assertEqual(self.check(Problem([Variable("x", -1, -1, whole=True)]), 2).points, ((-1,),))

    def test_pulls_and_no_aims(self):
        for pulls, expected in (
            (("down", "down"), ((0, 0), (0, 1), (1, 0), (1, 1))),
            (("up", "down"), ((1, 0), (1, 1), (0, 0), (0, 1))),
            (("down", "up"), ((0, 1), (0, 0), (1, 1), (1, 0))),
            (("up", "up"), ((1, 1), (1, 0), (0, 1), (0, 0))),
        ):
            problem = Problem([Variable(name, 0, 1, whole=True, pull=pull) for name, pull in zip("xy", pulls)])
            for many in range(1, 7):
                self.assertEqual(self.check(problem, many).points, expected[:many])

    def test_max_aims(self):
        problem = Problem([Variable("x", 0, 2, whole=True, pull="up"), Variable("y", 0, 2, whole=True)], [],
                          [Aim("max", [1, 1]), Aim("min", [0, 1], 7)])
        self.assertEqual(self.check(problem, 5).points, ((2, 2), (2, 1), (1, 2), (2, 0), (1, 1)))

    def test_against_all_points(self):
        chance = random.Random(64)
        complete = 0
        for _ in range(120):
            problem = some_problem(chance)
            for many in range(1, 9):
                complete += self.check(problem, many).complete
        self.assertGreater(complete, 50)

    def test_wide_problems(self):
        chance = random.Random(65)
        for _ in range(4):
            items = [Variable(f"x{at}", 0, 1, whole=True) for at in range(8)]
            rows = [Row(f"r{at}", [chance.randint(-4, 4) for _ in items], "<=", chance.randint(0, 4)) for at in range(6)]
            self.check(Problem(items, rows, [Aim("max", [chance.randint(-5, 5) for _ in items])]), 8)

    def test_a_whole_tree(self):
        items = [Variable(f"x{at}", 0, 1, whole=True) for at in range(8)]
        self.assertEqual(self.check(Problem(items, [Row("r", [2] * 8, "=", 9)]), 8).points, ())

    def test_nothing_is_changed(self):
        problem = little()
        before = picture(problem)
        first_points(problem, 4)
        self.assertEqual(picture(problem), before)

    def test_not_all_whole(self):
        for kinds in ((True, False), (False, True), (False, False)):
            problem = Problem([Variable(name, 0, 1, whole=whole) for name, whole in zip("xy", kinds)])
            for many in (-1, 0, 1, 8, 9):
                self.assertEqual(fault(first_points, problem, many), (NotAllWhole, {}))

    def test_bad_counts(self):
        chance = random.Random(66)
        for many in (-HUGE, -1, 0, 9, 10, HUGE):
            for problem in (little(), some_mixed(chance, whole=10)):
                self.assertEqual(fault(first_points, problem, many), (BadCount, {"what": "points", "many": many}))


if __name__ == "__main__":
    unittest.main()
