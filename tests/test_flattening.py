"""Point 40: papers without added rows, and without split ones."""

import copy
import random
import unittest

from bestpapers.errors import Unfit
from bestpapers.flattening import flattened
from bestpapers.fracs import Frac
from bestpapers.judging import shows
from bestpapers.paperforms import fits
from bestpapers.problems import Problem
from bestpapers.rows import Aim, Row
from bestpapers.unsplitting import unsplit
from bestpapers.variables import Variable
from tests.helpers import fault
from tests.made_papers import accepted_paper, numbers_in, reasons_in
from tests.test_judging import some_paper, some_problem
from tests.whole_papers import feasible_points

HALF = Frac(1, 2)


def halves():
    return Problem([Variable("x", 0, 3, whole=True), Variable("y", 0, 3, whole=True)],
                   [Row("r", [2, 2], "<=", 3), Row("s", [1, 0], ">=", -1)], [Aim("max", [1, 1])])


def added(prices, inner, coefficients=(1, 1), right=0):
    return ("derive", coefficients, right, ("added", prices), inner)


def rounded(prices, inner, coefficients=(-1, -1), right=-1):
    return ("derive", coefficients, right, ("rounded", prices), inner)


def split(variable, k, low, high, inner, coefficients=(1, 0), right=-3):
    return ("derive", coefficients, right, ("split", variable, k, low, high), inner)


def branch(variable, k, low, high):
    return ("branch", variable, k, low, high)


def empty(*prices):
    return ("empty", prices)


class Both(unittest.TestCase):
    def check(self, change, paper, expected):
        before = copy.deepcopy(paper)
        found = change(halves(), paper)
        self.assertEqual(found, expected)
        self.assertEqual(paper, before)
        self.check_kinds(found)
        self.assertIs(fits(halves(), found), True)

    def check_kinds(self, paper):
        whole, numbers = numbers_in(paper)
        self.assertTrue(all(number.__class__ is int for number in whole), paper)
        self.assertTrue(all(number.__class__ is Frac for number in numbers), paper)

    def check_shown(self, change, seed, left_out):
        chance = random.Random(seed)
        found = []
        for _ in range(120):
            problem = some_problem(chance)
            targets, paper = accepted_paper(chance, problem, feasible_points(problem))
            words = reasons_in(paper)
            if words.count("split") > 5:
                continue
            result = change(problem, paper)
            self.assertIs(shows(problem, targets, result), True)
            self.assertFalse(set(reasons_in(result)) & set(left_out))
            self.check_kinds(result)
            found.extend(words)
        self.assertGreater(min(found.count(word) for word in ("added", "rounded", "split", "branch", "empty")), 20)

    def check_fits(self, change, seed):
        """Also where the paper is not right."""
        chance = random.Random(seed)
        fitting = 0
        for _ in range(400):
            problem = some_problem(chance)
            paper = some_paper(chance, problem, problem.m, 4)
            if not fits(problem, paper):
                self.assertEqual(fault(change, problem, paper), (Unfit, {}))
                continue
            fitting += 1
            self.assertIs(fits(problem, change(problem, paper)), True)
        self.assertGreater(fitting, 100)

    def check_unfit(self, change):
        for paper in (empty(1), empty(1, 2, 3), added((0, 0), empty(0, 0)), added((0,), empty(0, 0, 0)),
                      branch(2, 1, empty(0, 0), empty(0, 0)), split(0, 1, (0, 0), (0,), empty(0, 0, 0)),
                      rounded((0, 0), empty(0, 0, 0), (HALF, 0)), ("floors", (((0,), (0, 0)),))):
            self.assertEqual(fault(change, halves(), paper), (Unfit, {}))


class Flattened(Both):
    def check_both(self, paper, expected):
        self.check(flattened, paper, expected)

    def test_without_added_rows(self):
        for paper in (empty(1, 0), ("floors", ()), ("floors", (((), (1, 0)), ((HALF,), (0, 0)))), ("listed", -4),
                      branch(1, 2, empty(0, 0), ("listed", 5)), rounded((-HALF, 0), empty(0, 0, 1)),
                      split(1, -7, (0, 1), (2, 3), empty(4, 5, 6))):
            self.check_both(paper, paper)

    def test_one(self):
        self.check_both(added((5, 7), empty(1, 2, 10)), empty(51, 72))
        self.check_both(added((5, 7), empty(1, 2, 0)), empty(1, 2))
        self.check_both(added((HALF, 0), ("floors", (((), (0, 0, 3)), ((9,), (1, 1, -2))))),
                        ("floors", (((), (Frac(3, 2), 0)), ((9,), (0, 1)))))
        self.check_both(added((5, 7), ("listed", 3)), ("listed", 3))

    def test_below_each_other(self):
        paper = added((1, 2), added((3, 4, 5), empty(6, 7, 8, 9)))
        self.check_both(paper, empty(6 + 8 + 9 * (3 + 5), 7 + 16 + 9 * (4 + 10)))
        paper = added((1, 2), added((0, 0, 1), added((0, 0, 0, 2), empty(0, 0, 0, 0, 3))))
        self.check_both(paper, empty(6, 12))

    def test_above_others(self):
        paper = added((1, 2), rounded((0, 3, 10), empty(1, 1, 100, 7)))
        self.check_both(paper, rounded((10, 23), empty(101, 201, 7)))
        paper = added((1, 2), split(0, 1, (0, 0, 1), (0, 0, 2), empty(0, 0, 3, 4)))
        self.check_both(paper, split(0, 1, (1, 2), (2, 4), empty(3, 6, 4)))

    def test_below_others(self):
        paper = rounded((-HALF, 0), added((1, 2, 3), empty(0, 0, 5, 7)))
        self.check_both(paper, rounded((-HALF, 0), empty(7, 14, 26)))
        paper = split(1, 0, (1, 0), (0, 1), added((0, 0, 3), empty(1, 1, 1, 7)))
        self.check_both(paper, split(1, 0, (1, 0), (0, 1), empty(1, 1, 22)))

    def test_between_others(self):
        paper = rounded((0, 0), added((0, 0, 2), rounded((0, 0, 0, 3), added((0, 0, 0, 1, 5), empty(0, 0, 0, 0, 0, 1)))))
        self.check_both(paper, rounded((0, 0), rounded((0, 0, 6), empty(0, 0, 2, 5))))

    def test_below_and_above_branches(self):
        paper = added((1, 0), branch(0, 1, empty(0, 0, 2), added((0, 1, 1), empty(0, 0, 0, 3))))
        self.check_both(paper, branch(0, 1, empty(2, 0), empty(3, 3)))
        paper = branch(0, 1, added((1, 0), empty(0, 0, 2)), empty(4, 5))
        self.check_both(paper, branch(0, 1, empty(2, 0), empty(4, 5)))

    def test_without_rows(self):
        problem = Problem([Variable("x", 0, 1, whole=True)])
        paper = ("derive", (1,), 0, ("added", ()), ("empty", (4,)))
        self.assertEqual(flattened(problem, paper), ("empty", ()))

    def test_unfit(self):
        self.check_unfit(flattened)

    def test_fits(self):
        self.check_fits(flattened, 40)

    def test_shown(self):
        self.check_shown(flattened, 41, ("added",))

    def test_deep(self):
        paper = empty(*[0] * 200, 1)
        for many in range(198, 0, -1):
            paper = added((0,) * (many + 1) + (1,), paper)
        paper = added((3, 4), paper)
        self.check_both(paper, empty(3, 4))


class Unsplit(Both):
    def check_both(self, paper, expected):
        self.check(unsplit, paper, expected)

    def test_without_splits(self):
        for paper in (empty(1, 0), ("floors", ()), ("listed", -4), branch(1, 2, empty(0, 0), ("listed", 5)),
                      rounded((-HALF, 0), empty(0, 0, 1))):
            self.check_both(paper, paper)

    def test_added_rows_go(self):
        self.check_both(added((5, 7), empty(1, 2, 10)), empty(51, 72))

    def test_one(self):
        paper = split(1, 2, (1, 2), (3, 4), empty(5, 6, 10))
        self.check_both(paper, branch(1, 2, empty(15, 26), empty(35, 46)))

    def test_below_each_other(self):
        paper = split(1, 1, (1, 0), (0, 1), split(0, 0, (0, 0, 1), (0, 0, 2), empty(0, 0, 1, 10)))
        expected = branch(1, 1, branch(0, 0, empty(11, 0), empty(21, 0)), branch(0, 0, empty(0, 11), empty(0, 21)))
        self.check_both(paper, expected)

    def test_with_rounded_rows(self):
        paper = rounded((1, 1), split(1, 1, (1, 0, 5), (0, 1, 6), rounded((0, 0, 0, 2), empty(0, 0, 0, 0, 9))))
        expected = rounded((1, 1), branch(1, 1, rounded((2, 0, 10), empty(0, 0, 0, 9)),
                                          rounded((0, 2, 12), empty(0, 0, 0, 9))))
        self.check_both(paper, expected)

    def test_a_crossed_half_of_a_split(self):
        for k, expected in ((-1, empty(0, 2)), (-9, empty(0, 2)), (3, empty(1, 0)), (99, empty(1, 0))):
            self.check_both(split(0, k, (1, 0), (0, 2), empty(0, 0, 1)), expected)
        for k in (0, 2):
            self.check_both(split(0, k, (1, 0), (0, 2), empty(0, 0, 1)), branch(0, k, empty(1, 0), empty(0, 2)))

    def test_a_crossed_half_of_a_branch(self):
        low, high = empty(1, 0), empty(0, 1)
        for k, expected in ((-1, high), (3, low), (0, branch(0, 0, low, high)), (2, branch(0, 2, low, high))):
            self.check_both(branch(0, k, low, high), expected)

    def test_boxes_become_narrower(self):
        paper = branch(0, 1, split(0, 1, (1, 0), (0, 1), empty(0, 0, 1)), split(0, 1, (1, 0), (0, 1), empty(0, 0, 1)))
        self.check_both(paper, branch(0, 1, empty(1, 0), empty(0, 1)))
        paper = split(0, 1, (1, 0), (0, 1), branch(0, 2, empty(0, 0, 1), empty(0, 0, 2)))
        self.check_both(paper, branch(0, 1, empty(1, 0), branch(0, 2, empty(0, 1), empty(0, 2))))
        paper = split(0, 1, (1, 0), (0, 1), branch(0, 0, empty(0, 0, 1), empty(0, 0, 2)))
        self.check_both(paper, branch(0, 1, branch(0, 0, empty(1, 0), empty(2, 0)), empty(0, 2)))

    def test_boxes_never_become_wider(self):
        paper = branch(0, 1, split(0, 2, (1, 0), (0, 1), branch(0, 1, empty(0, 0, 1), empty(0, 0, 2))), empty(0, 0))
        self.check_both(paper, branch(0, 1, empty(1, 0), empty(0, 0)))

    def test_unfit(self):
        self.check_unfit(unsplit)

    def test_fits(self):
        self.check_fits(unsplit, 42)

    def test_shown(self):
        self.check_shown(unsplit, 43, ("added", "split"))


if __name__ == "__main__":
    unittest.main()
