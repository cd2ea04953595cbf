"""Point 41: papers of problems side by side."""

import copy
import random
import unittest

from bestpapers.besides import beside_papers
from bestpapers.changes import with_aims
from bestpapers.errors import BadCount, NoAim, SameName, TooWide, UnlikeAims, Unfit
from bestpapers.fracs import Frac
from bestpapers.joining import beside
from bestpapers.paperforms import fits, paper_counts
from bestpapers.problems import Problem
from bestpapers.rows import Aim, Row
from bestpapers.variables import Variable
from bestpapers.worths import worth
from tests.helpers import fault, variables
from tests.made_papers import accepted_paper, numbers_in
from tests.test_judging import some_paper, some_problem
from tests.whole_papers import feasible_points

HALF = Frac(1, 2)


def left():
    """Two variables, one row."""
    return Problem([Variable("x", 0, 3, whole=True), Variable("y", 0, 3)], [Row("r", [1, 1], ">=", 2)],
                   [Aim("min", [1, 1])])


def right():
    """Three variables, two rows."""
    return Problem([Variable("u", 0, 2, whole=True), Variable("v", 0, 2), Variable("w", 0, 2, whole=True)],
                   [Row("s", [1, 1, 0], ">=", 1), Row("t", [0, 1, 1], "<=", 3)], [Aim("min", [1, 2, 3], 1)])


def line(*prices):
    return ("floors", (((), prices),))


def empty(*prices):
    return ("empty", prices)


def derive(coefficients, right_side, reason, inner):
    return ("derive", coefficients, right_side, reason, inner)


def renamed(problem):
    """The problem with other names, so that it can stand beside another one."""
    items = [Variable("b" + v.name, v.low, v.high, whole=v.whole, pull=v.pull) for v in problem.variables]
    rows = [Row("b" + r.name, r.coefficients, r.sense, r.right) for r in problem.rows]
    return Problem(items, rows, problem.aims)


class Errors(unittest.TestCase):
    def check(self, first, second, left_paper, right_paper, error, **attributes):
        self.assertEqual(fault(beside_papers, first, second, left_paper, right_paper), (error, attributes))

    def test_errors_of_beside(self):
        bad = line(1, 2, 3, 4)
        self.check(left(), with_aims(right(), []), bad, bad, UnlikeAims, left=1, right=0)
        self.check(left(), with_aims(right(), [Aim("max", [1, 1, 1])]), bad, bad, UnlikeAims, left=1, right=1)
        self.check(left(), left(), bad, bad, SameName, name="x")
        wide = Problem(variables(14), (), [Aim("min", [1] * 14)])
        self.check(wide, right(), bad, bad, BadCount, what="variables", many=17)
        first = Problem([Variable("a", 0, 30, whole=True)])
        second = Problem([Variable("b", 0, 20, whole=True)])
        self.check(first, second, bad, bad, TooWide, width=50, many=31 * 21)

    def test_no_aims_before_unfit(self):
        bad = line(1, 2, 3, 4)
        self.check(with_aims(left(), []), with_aims(right(), []), bad, bad, NoAim, aim=0)

    def test_unfit(self):
        good_left, good_right = line(1), line(1, 0)
        self.assertIsNone(fault(beside_papers, left(), right(), good_left, good_right))
        for bad in (line(), line(1, 2, 3), ("branch", 1, 1, line(1), line(1))):
            self.check(left(), right(), bad, good_right, Unfit)
            self.check(left(), right(), good_left, bad, Unfit)
        self.check(left(), right(), good_right, good_left, Unfit)


class Results(unittest.TestCase):
    def check(self, left_paper, right_paper, expected):
        before = copy.deepcopy((left_paper, right_paper))
        found = beside_papers(left(), right(), left_paper, right_paper)
        self.assertEqual(found, expected)
        self.assertEqual((left_paper, right_paper), before)
        self.assertIs(fits(beside(left(), right()), found), True)
        whole, numbers = numbers_in(found)
        self.assertTrue(all(number.__class__ is int for number in whole))
        self.assertTrue(all(number.__class__ is Frac for number in numbers))

    def test_two_lines(self):
        self.check(line(5), line(6, 7), line(5, 6, 7))
        more = ("floors", (((), (5,)), ((1,), (9,))))
        self.check(more, line(6, HALF), line(5, 6, HALF))
        self.check(line(5), ("floors", (((), (6, 7)), ((1,), (9, 9)))), line(5, 6, 7))

    def test_without_a_line(self):
        none = ("floors", ())
        for first, second in ((none, line(6, 7)), (("listed", 2), line(6, 7)), (line(5), none),
                              (line(5), ("listed", -1)), (none, none), (("listed", 0), ("listed", 0))):
            self.check(first, second, none)

    def test_empty(self):
        self.check(empty(5), line(6, 7), empty(5, 0, 0))
        self.check(empty(5), empty(6, 7), empty(5, 0, 0))
        self.check(line(5), empty(6, 7), empty(0, 6, 7))
        self.check(("listed", 3), empty(6, 7), empty(0, 6, 7))

    def test_branches(self):
        paper = ("branch", 0, 1, line(1), empty(2))
        other = ("branch", 2, 0, line(3, 4), ("branch", 0, 1, empty(5, 6), ("floors", ())))
        inside = ("branch", 4, 0, line(1, 3, 4), ("branch", 2, 1, empty(0, 5, 6), ("floors", ())))
        self.check(paper, other, ("branch", 0, 1, inside, empty(2, 0, 0)))

    def test_derived_rows_on_the_left(self):
        paper = derive((1, HALF), 4, ("added", (7,)), derive((0, 1), 5, ("added", (8, 9)), line(1, 2, 3)))
        expected = derive((1, HALF, 0, 0, 0), 4, ("added", (7, 0, 0)),
                          derive((0, 1, 0, 0, 0), 5, ("added", (8, 0, 0, 9)), line(1, 10, 11, 2, 3)))
        self.check(paper, line(10, 11), expected)
        paper = derive((2, 0), 4, ("rounded", (7,)), empty(1, 2))
        self.check(paper, line(10, 11), derive((2, 0, 0, 0, 0), 4, ("rounded", (7, 0, 0)), empty(1, 0, 0, 2)))

    def test_derived_rows_on_the_right(self):
        paper = derive((1, 2, 3), 4, ("split", 2, 1, (5, 6), (7, 8)), line(1, 2, 3))
        expected = derive((0, 0, 1, 2, 3), 4, ("split", 4, 1, (0, 5, 6), (0, 7, 8)), line(9, 1, 2, 3))
        self.check(line(9), paper, expected)
        paper = derive((1, 0, 3), 4, ("rounded", (5, 6)), derive((0, 1, 0), 0, ("added", (1, 2, 3)), empty(1, 2, 3, 4)))
        expected = derive((0, 0, 1, 0, 3), 4, ("rounded", (0, 5, 6)),
                          derive((0, 0, 0, 1, 0), 0, ("added", (0, 1, 2, 3)), empty(0, 1, 2, 3, 4)))
        self.check(line(9), paper, expected)

    def test_derived_rows_on_both_sides(self):
        first = derive((1, 2), 3, ("split", 0, 1, (4,), (5,)), ("branch", 0, 0, line(6, 7), derive(
            (1, 1), 8, ("added", (9, 10)), line(11, 12, 13))))
        second = derive((1, 2, 3), 4, ("added", (20, 21)), line(22, 23, 24))
        inside_low = derive((0, 0, 1, 2, 3), 4, ("added", (0, 20, 21, 0)), line(6, 22, 23, 7, 24))
        inside_high = derive((0, 0, 1, 2, 3), 4, ("added", (0, 20, 21, 0, 0)), line(11, 22, 23, 12, 13, 24))
        expected = derive((1, 2, 0, 0, 0), 3, ("split", 0, 1, (4, 0, 0), (5, 0, 0)), (
            "branch", 0, 0, inside_low, derive((1, 1, 0, 0, 0), 8, ("added", (9, 0, 0, 10)), inside_high)))
        self.check(first, second, expected)

    def test_sums_of_worths(self):
        chance = random.Random(41)
        numbers = others = 0
        while numbers < 120:
            pair = [some_problem(chance), renamed(some_problem(chance))]
            if not pair[0].aims or fault(beside, *pair):
                continue
            papers = [self.some(chance, problem) for problem in pair]
            if None in papers or max(paper_counts(paper)["derive"] for paper in papers) > 12:
                continue
            joined = beside(*pair)
            found = beside_papers(*pair, *papers)
            self.assertIs(fits(joined, found), True)
            worths = [worth(problem, paper) for problem, paper in zip(pair, papers)]
            if None in worths or "empty" in worths:
                others += 1
                continue
            numbers += 1
            self.assertEqual(worth(joined, found), worths[0] + worths[1])
        self.assertGreater(others, 20)

    def some(self, chance, problem):
        if chance.randint(0, 1):
            return accepted_paper(chance, problem, feasible_points(problem))[1]
        paper = some_paper(chance, problem, problem.m, 3)
        return paper if fits(problem, paper) else None


if __name__ == "__main__":
    unittest.main()
