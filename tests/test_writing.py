"""Point 30: problems written as texts."""

import unittest

from bestpapers.fracs import Frac
from bestpapers.problems import Problem
from bestpapers.rows import Aim, Row
from bestpapers.variables import Variable
from bestpapers.writing import problem_text
from tests.helpers import HUGE, sample, variables

EXAMPLE = "var x 0 5 whole\nvar y 0 -\nrow r 2*x + -1/3*y <= 7\nmax 1*x + 1*y + 4"


def example():
    return Problem([Variable("x", 0, 5, whole=True), Variable("y")],
                   [Row("r", [2, Frac(-1, 3)], "<=", 7)], [Aim("max", [1, 1], 4)])


class Writing(unittest.TestCase):
    def check_variables(self, *pairs):
        found = problem_text(Problem([variable for variable, _ in pairs]))
        self.assertEqual(found, "\n".join(line for _, line in pairs))

    def test_example(self):
        self.assertEqual(problem_text(example()), EXAMPLE)

    def test_sample(self):
        self.assertEqual(problem_text(sample()), "\n".join([
            "var x 0 5 whole", "var y -1/2 -", "var z - 7",
            "row a 1*x + 2*y <= 6", "row b 1/3*y + -1*z >= -4", "row c 2*x + 1*z = 5/2",
            "min 1*x + 1*y + 1*z + 4", "max 1/2*x + -2*z",
        ]))

    def test_ends_and_pulls(self):
        self.check_variables(
            (Variable("a", -1, None), "var a -1 -"),
            (Variable("b", None, Frac(-2, 3)), "var b - -2/3"),
            (Variable("c", None, 3, pull="up"), "var c - 3"),
            (Variable("d", 1, 3, pull="up"), "var d 1 3 up"),
            (Variable("e", 1, 3, pull="down"), "var e 1 3"),
            (Variable("f", 1, 3, whole=True), "var f 1 3 whole"),
            (Variable("g", 0, 3, whole=True, pull="up"), "var g 0 3 whole up"),
            (Variable("h", 0, 0), "var h 0 0"),
            (Variable("i", -HUGE, Frac(1, HUGE)), f"var i -{HUGE} 1/{HUGE}"),
        )

    def test_sums_without_terms(self):
        problem = Problem(variables(2), [Row("r", [0, 0], ">=", -1)],
                          [Aim("min", [0, 0]), Aim("max", [0, 0], 3), Aim("min", [0, 1], 0)])
        self.assertEqual(problem_text(problem), "\n".join([
            "var x0 0 -", "var x1 0 -", "row r 0 >= -1", "min 0", "max 3", "min 1*x1"]))

    def test_zeros_are_left_out(self):
        problem = Problem(variables(3), [Row("r", [0, 5, 0], "=", 0)],
                          [Aim("min", [7, 0, Frac(-1, 2)], Frac(-3, 2))])
        self.assertEqual(problem_text(problem).split("\n")[3:],
                         ["row r 5*x1 = 0", "min 7*x0 + -1/2*x2 + -3/2"])

    def test_no_line_feed_at_the_end(self):
        self.assertEqual(problem_text(Problem(variables(1))), "var x0 0 -")

    def test_order_of_rows_and_aims(self):
        problem = Problem(variables(1), [Row("b", [1], "<=", 1), Row("a", [1], ">=", 0)],
                          [Aim("max", [1]), Aim("min", [2])])
        self.assertEqual(problem_text(problem).split("\n")[1:],
                         ["row b 1*x0 <= 1", "row a 1*x0 >= 0", "max 1*x0", "min 2*x0"])


if __name__ == "__main__":
    unittest.main()
