"""Point 94: reports."""

import unittest

from bestpapers.answers import Answer
from bestpapers.errors import WrongWidth
from bestpapers.fracs import Frac
from bestpapers.problems import Problem
from bestpapers.refusals import NotFeasible
from bestpapers.reports import report
from bestpapers.rows import Row
from bestpapers.solving import solve
from bestpapers.variables import Variable
from tests.helpers import HUGE, fault, sample

NONE = ("floors", ())


def told(*point):
    return Answer.told((), point, NONE)


class Reports(unittest.TestCase):
    def test_every_kind_of_item(self):
        lines = report(sample(), told(1, Frac(5, 2), Frac(1, 2)))
        self.assertEqual(lines, [
            "x                        1             0             5",
            "y                      5/2          -1/2             -",
            "z                      1/2             -             7",
            "a                        6             -             6",
            "b                      1/3            -4             -",
            "c                      5/2           5/2           5/2",
        ])
        self.assertEqual((lines.__class__, {len(line) for line in lines}), (list, {12 + 3 * 14}))

    def test_best_and_told(self):
        for make in (Answer.told, Answer.best):
            self.assertEqual(report(sample(), make((), (0, 0, 0), NONE)), report(sample(), told(0, 0, 0)))

    def test_points_that_are_not_feasible(self):
        self.assertEqual(report(Problem([Variable("x", 0, 1)]), told(-7)), ["x                       -7             0             1"])

    def test_long_texts(self):
        problem = Problem([Variable("abcdefghijkl", -HUGE, None), Variable("x", 0, 10 ** 13)], [Row("abcdefghijk", [1, Frac(1, 3)], "<=", 10 ** 14)])
        lines = report(problem, told(Frac(-HUGE, 3), 10 ** 13))
        third = f"-{HUGE}/3"
        self.assertEqual(lines[0], f"abcdefghijkl{third}-{HUGE}" + " " * 13 + "-")
        self.assertEqual(lines[1], "x" + " " * 11 + f"{10 ** 13}" + " " * 13 + "0" + f"{10 ** 13}")
        self.assertEqual(lines[2], "abcdefghijk " + f"{Frac(-HUGE + 10 ** 13, 3)}" + " " * 13 + "-" + f"{10 ** 14}")

    def test_an_answer_of_the_solver(self):
        problem = Problem([Variable("x", 0, 3), Variable("y", 0, 3)], [Row("r", [1, 1], ">=", 2)])
        self.assertEqual([line.split() for line in report(problem, solve(problem))], [["x", "0", "0", "3"], ["y", "2", "0", "3"], ["r", "2", "2", "-"]])

    def test_errors(self):
        for answer in (Answer.empty(NONE), Answer.endless(0, (), (1, 2, 3), (1, 1, 1), NONE), Answer.endless(0, (), (), (), NONE)):
            self.assertEqual(fault(report, sample(), answer), (NotFeasible, {}))
        for wrong in ((), (1,), (1, 2), (1, 2, 3, 4)):
            for make in (Answer.told, Answer.best):
                self.assertEqual(fault(report, sample(), make((), wrong, NONE)), (WrongWidth, {"have": len(wrong), "need": 3}))


if __name__ == "__main__":
    unittest.main()
