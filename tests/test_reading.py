"""Point 31: problems read from texts."""

import random
import unittest

from bestpapers.errors import (
    BadCount, BadName, BadPull, BadText, Crossed, NoEnd, NotWhole, SameName, TooWide,
)
from bestpapers.fracs import Frac
from bestpapers.problems import Problem
from bestpapers.reading import read_problem
from bestpapers.rows import Aim, Row
from bestpapers.variables import Variable
from bestpapers.writing import problem_text
from tests.helpers import HUGE, fault, picture, sample, shape
from tests.test_writing import EXAMPLE, example

HEAD = "var x 0 5\nvar y 0 -\n"
LONG = "9" * 40


class Reading(unittest.TestCase):
    def check_row(self, words, coefficients):
        row = read_problem(HEAD + "row r " + words + " <= 1").rows[0]
        self.assertEqual((row.name, row.coefficients, row.sense, row.right), ("r", coefficients, "<=", 1))
        self.assertEqual(shape(row.coefficients), ("tuple", ["Frac", "Frac"]))

    def check_aim(self, words, coefficients, constant):
        for sense in ("min", "max"):
            aim = read_problem(HEAD + sense + " " + words).aims[0]
            self.assertEqual((aim.sense, aim.coefficients, aim.constant), (sense, coefficients, constant))
            self.assertEqual(shape(aim.constant), "Frac")

    def test_example(self):
        self.assertEqual(picture(read_problem(EXAMPLE)), picture(example()))

    def test_sample(self):
        self.assertEqual(picture(read_problem(problem_text(sample()))), picture(sample()))

    def test_variables(self):
        for line, low, high, whole, pull in (
            ("var v 1 2", 1, 2, False, "down"), ("var v - 2", None, 2, False, "up"),
            ("var v -1/2 -", Frac(-1, 2), None, False, "down"), ("var v 1 2 up", 1, 2, False, "up"),
            ("var v 1 2 down", 1, 2, False, "down"), ("var v 1 2 whole", 1, 2, True, "down"),
            ("var v 1 2 whole up", 1, 2, True, "up"), ("var v 1 2 whole down", 1, 2, True, "down"),
            ("var v - 2 up", None, 2, False, "up"), ("var v 0 - down", 0, None, False, "down"),
        ):
            variable = read_problem(line)["v"]
            found = (variable.low, variable.high, variable.whole, variable.pull)
            self.assertEqual(found, (low, high, whole, pull), line)

    def test_sums_of_rows(self):
        self.check_row("0", (0, 0))
        self.check_row("1*x + 2*y", (1, 2))
        self.check_row("2*y + 1*x", (1, 2))
        self.check_row("-2/3*y", (0, Frac(-2, 3)))
        self.check_row("0*x", (0, 0))
        self.check_row("0*y + 5*x", (5, 0))

    def test_sums_of_aims(self):
        self.check_aim("0", (0, 0), 0)
        self.check_aim("5", (0, 0), 5)
        self.check_aim("-5/7", (0, 0), Frac(-5, 7))
        self.check_aim("1*y + 2*x", (2, 1), 0)
        self.check_aim("1*y + 2*x + 0", (2, 1), 0)
        self.check_aim("0*y + -3", (0, 0), -3)
        self.check_aim("1*x + 1/2", (1, 0), Frac(1, 2))

    def test_senses_and_right_sides(self):
        for sense in ("<=", ">=", "="):
            row = read_problem(HEAD + f"row r 1*x {sense} -7/2").rows[0]
            self.assertEqual((row.sense, row.right), (sense, Frac(-7, 2)))

    def test_variables_alone(self):
        problem = read_problem("var x 0 1")
        self.assertEqual((problem.n, problem.rows, problem.aims), (1, (), ()))

    def test_aims_without_rows(self):
        problem = read_problem(HEAD + "min 1*x\nmax 1*y\nmin 0")
        self.assertEqual([aim.sense for aim in problem.aims], ["min", "max", "min"])

    def test_forty_figures(self):
        problem = read_problem(f"var x -{LONG} {LONG}\nrow r 1/{LONG}*x <= {LONG}")
        self.assertEqual(problem["x"].low, 1 - HUGE)
        self.assertEqual(problem["r"].coefficients, (Frac(1, HUGE - 1),))

    def test_again_the_same_text(self):
        chance = random.Random(30)
        for _ in range(60):
            problem = some_problem(chance)
            text = problem_text(problem)
            self.assertEqual(picture(read_problem(text)), picture(problem))
            self.assertEqual(problem_text(read_problem(text)), text)


def some_number(chance):
    return Frac(chance.randint(-3, 3), chance.choice((1, 1, 2, 10 ** 39 + 1)))


def some_problem(chance):
    pulls = (None, "up", "down")
    kinds = [Variable("a", 0, 3, whole=True, pull=chance.choice(pulls)),
             Variable("b", Frac(-1, 2), Frac(7, 3), pull=chance.choice(pulls)),
             Variable("c", None, some_number(chance)), Variable("d", some_number(chance))]
    chance.shuffle(kinds)
    n = chance.randint(1, 4)
    rows = [Row(f"r{at}", [some_number(chance) for _ in range(n)], chance.choice(("<=", ">=", "=")),
                some_number(chance)) for at in range(chance.randint(0, 4))]
    aims = [Aim(chance.choice(("min", "max")), [some_number(chance) for _ in range(n)], some_number(chance))
            for _ in range(chance.randint(0, 3))]
    return Problem(kinds[:n], rows, aims)


class WrongLines(unittest.TestCase):
    def refuse(self, text, line):
        self.assertEqual(fault(read_problem, text), (BadText, {"line": line}), text)

    def test_empty_text(self):
        self.refuse("", 0)
        self.refuse("\n", 0)
        self.refuse(" ", 0)

    def test_empty_lines(self):
        self.refuse("\nvar x 0 1", 0)
        self.refuse("var x 0 1\n", 1)
        self.refuse("var x 0 1\n\nvar y 0 1", 1)

    def test_spaces(self):
        for line in (" var x 0 1", "var  x 0 1", "var x  0 1", "var x 0  1", "var x 0 1 ",
                     "var x 0 1  up", "var x 0 1 up ", "var x 0 1 whole ", "\tvar x 0 1"):
            self.refuse(line, 0)

    def test_lines_of_variables(self):
        for line in ("var", "var x", "var x 0", "Var x 0 1", "x 0 1", "var x 0 1 2", "var x 0 1 Whole",
                     "var x 0 1 up whole", "var x 0 1 whole whole", "var x 0 1 up up",
                     "var x 0 1 up down", "var x 0 1 whole up down", "var x 0 1 whole left",
                     "var x 0 1 left", "var x 0 1 None", "var x 01 1", "var x 0 +1", "var x a 1",
                     "var x 0 b", "var x 2/4 1", "var x 0 1/0", "var x  1", "var x -- 1", "var x 0 -0",
                     "varx 0 1", "variable x 0 1", "var x 0 1;"):
            self.refuse(line, 0)
            self.refuse("var y 0 1\n" + line, 1)

    def test_lines_of_rows(self):
        for line in ("row", "row r", "row r 1*x", "row r 1*x <=", "row r <= 1", "row r 1*x 1",
                     "row r 1*x < 1", "row r 1*x == 1", "row r 1*x => 1", "row r 1*x <= 1 2",
                     "row r 1*x <= one", "row r 1*x <= -", "row r  <= 1", "row r 1*x <= 2/2",
                     "row r 1*x <= 1 ", "row r 1*x <=  1", "row  r 1*x <= 1", "row 1*x <= 1",
                     "Row r 1*x <= 1", "row r 1*x <= 3 <= 4"):
            self.refuse(HEAD + line, 2)

    def test_sums(self):
        for words in ("", " ", "1*z", "x", "*x", "1x", "x*1", "1*x 2*y", "1*x +", "+ 1*x", "1*x + + 2*y",
                      "1*x  + 2*y", "1*x +  2*y", "1*x - 2*y", "1*x+2*y", "1*x + 1*x", "0*x + 0*x",
                      "1*x*y", "1**x", "2/2*x", "01*x", "-*x", "+1*x", "5 + 1*x", "0 + 1*x", "1*X",
                      "0 + 0", "1*x + 2 + 2*y", "1* x", "1 *x", "1*", "1*x + 2*y + 3*x",
                      "1*x + 2*y +", "1*x ++ 2*y", "-0", "00", "1*x + 2*", "1*x + "):
            self.refuse(HEAD + f"row r {words} <= 1", 2)
            self.refuse(HEAD + f"min {words}", 2)

    def test_rows_have_no_constant(self):
        for words in ("5", "1*x + 5", "1*x + 0", "0 + 0", "-1/2"):
            self.refuse(HEAD + f"row r {words} <= 1", 2)

    def test_a_term_without_a_star(self):
        for words in ("5", "x", ""):
            self.refuse(f"var  0 1\nvar x 0 1\nrow r {words} <= 1", 2)
            self.refuse(f"var  0 1\nvar x 0 1\nmin {words} + 1*x", 2)

    def test_lines_of_no_kind(self):
        for line in ("foo", "foo 0", "foo 1*x", "0", "mix 5", "minmax 0"):
            self.refuse(line, 0)
            self.refuse(HEAD + line, 2)
            self.refuse(HEAD + "row r 0 <= 1\n" + line, 3)
            self.refuse(HEAD + "max 0\n" + line, 3)

    def test_lines_of_aims(self):
        for line in ("min", "max", "min ", "mid 1*x", "Min 1*x", "min 1*x <= 1", "min 1*x + 1 + 2",
                     "min x", "max 1*x + 2/4", "max 1*x + 1*x", "min name 1*x", "min 3 4", "minimum 1*x"):
            self.refuse(HEAD + line, 2)

    def test_order_of_lines(self):
        self.refuse(HEAD + "row r 1*x <= 1\nvar z 0 1", 3)
        self.refuse(HEAD + "min 1*x\nvar z 0 1", 3)
        self.refuse(HEAD + "min 1*x\nrow r 1*x <= 1", 3)
        self.refuse(HEAD + "row r 1*x <= 1\nmax 1*x\nrow s 1*x <= 1", 4)
        self.refuse("row r 1*x <= 1\nvar x 0 1", 0)
        self.refuse("row r 0 <= 1\nvar x 0 1", 1)
        self.refuse("min 0\nvar x 0 1", 1)

    def test_a_term_of_a_later_variable(self):
        self.refuse("var x 0 1\nrow r 1*y <= 1\nvar y 0 1", 1)

    def test_forty_one_figures(self):
        long = LONG + "9"
        for line in (f"var x 0 {long}", f"var x -{long} 0", f"var x 0 1/{long}"):
            self.refuse(line, 0)
        self.refuse(HEAD + f"row r {long}*x <= 1", 2)
        self.refuse(HEAD + f"row r 1*x <= {long}", 2)
        self.refuse(HEAD + f"min 1*x + {long}", 2)

    def test_the_first_wrong_line_counts(self):
        self.refuse("var x 0 1\nvar y\nrow r 1*q <= 1", 1)
        self.refuse("var x 0 1\nrow r 1*q <= 1\nvar y 0 1", 1)
        self.refuse("var x 0 1\nmin 1*x\nvar y 0 1\nfoo", 2)

    def test_before_the_errors_of_the_problem(self):
        self.refuse("var X 0 1\nvar x 3 2\nrow x 0 <= ?", 2)
        self.refuse("row r 0 <= 1\nmin 0\nfoo", 2)
        self.refuse("\n".join([f"var x{at} 0 1" for at in range(17)] + [""]), 17)
        self.refuse(HEAD + "\n".join(["min 0"] * 5 + ["end"]), 7)


class WrongProblems(unittest.TestCase):
    def check(self, text, error, **told):
        self.assertEqual(fault(read_problem, text), (error, told), text)

    def test_any_word_may_stand_for_a_name(self):
        for name in ("", "X", "1", "whole", "-", "up", "a" * 13, "<=", "+", "0", "a*b", "*", "var", "2*x"):
            self.check(f"var {name} 0 1", BadName, name=name)
            self.check(HEAD + f"row {name} 1*x <= 1", BadName, name=name)

    def test_a_star_in_a_name(self):
        self.check("var a*b 0 1\nrow r 2*a*b <= 1", BadName, name="a*b")
        self.check("var * 0 1\nrow r 2** <= 1", BadName, name="*")
        self.check("var  0 1\nrow r 2* <= 1", BadName, name="")
        self.check("var + 0 1\nmin 2*+ + 1", BadName, name="+")
        self.check("var 2*a 0 1\nvar a 0 1\nrow r 3*a <= 1", BadName, name="2*a")

    def test_no_variables(self):
        self.check("row r 0 <= 1", BadCount, what="variables", many=0)
        self.check("min 0", BadCount, what="variables", many=0)
        self.check("row  0 <= 1\nmax 7", BadCount, what="variables", many=0)

    def test_too_many_variables(self):
        lines = [f"var x{at} 0 1" for at in range(16)]
        self.assertEqual(read_problem("\n".join(lines)).n, 16)
        self.check("\n".join(lines + ["var X 0 1"]), BadCount, what="variables", many=17)

    def test_errors_of_variables(self):
        self.check("var x - -", NoEnd, name="x")
        self.check("var x 2 1", Crossed, name="x")
        self.check("var x 0 - whole", NotWhole, name="x")
        self.check("var x 0 1/2 whole", NotWhole, name="x")
        self.check("var x - 1 down", BadPull, name="x")
        self.check("var x 1 - up", BadPull, name="x")

    def test_errors_of_the_problem(self):
        self.check("var x 0 1\nvar x 0 1", SameName, name="x")
        self.check("var x 0 1\nvar x 0 1\nrow r 1*x <= 1", SameName, name="x")
        self.check("var x 0 1\nrow x 0 <= 1", SameName, name="x")
        self.check("var x 0 41 whole", TooWide, width=41, many=42)
        rows = "\n".join(f"row r{at} 0 <= 1" for at in range(17))
        self.check("var x 0 1\n" + rows, BadCount, what="rows", many=17)
        self.check("var x 0 1" + "\nmin 0" * 4, BadCount, what="aims", many=4)

    def test_order(self):
        self.check("var x 2 1\nvar Y 0 1", Crossed, name="x")
        self.check("var x 0 1\nvar x 0 1\nvar y 2 1", Crossed, name="y")
        self.check("var x 0 1\nvar x 0 1\nrow R 0 <= 1", BadName, name="R")
        self.check("var x 0 50 whole\nrow x 0 <= 1" + "\nmin 0" * 4, TooWide, width=50, many=51)
        self.check("var x 0 1\nrow x 0 <= 1" + "\nmin 0" * 4, SameName, name="x")


if __name__ == "__main__":
    unittest.main()
