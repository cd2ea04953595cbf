"""Points 15 and 16: problems."""

import unittest

from bestpapers.errors import BadCount, NoName, SameName, TooWide, WrongWidth
from bestpapers.fracs import Frac
from bestpapers.problems import Problem
from bestpapers.rows import Aim, Row
from bestpapers.variables import Variable
from tests.helpers import HUGE, fault, sample, shape, variables


def rows(count, width):
    return [Row(f"r{at}", [1] * width, "<=", 9) for at in range(count)]


def aims(count, width):
    return [Aim("min", [1] * width) for _ in range(count)]


def whole(*spans):
    """Whole variables from -1 on, one for each span, high - low."""
    return [Variable(f"w{at}", -1, span - 1, whole=True) for at, span in enumerate(spans)]


def count_fault(what, many):
    return (BadCount, {"what": what, "many": many})


def wide_fault(width, many):
    return (TooWide, {"width": width, "many": many})


def width_fault(have, need):
    return (WrongWidth, {"have": have, "need": need})


def same_fault(name):
    return (SameName, {"name": name})


class Attributes(unittest.TestCase):
    def test_tuples_and_counts(self):
        for kind in (list, tuple):
            parts = variables(3), rows(2, 3), aims(1, 3)
            problem = Problem(*[kind(part) for part in parts])
            self.assertEqual(problem.variables, tuple(parts[0]))
            self.assertEqual(problem.rows, tuple(parts[1]))
            self.assertEqual(problem.aims, tuple(parts[2]))
            self.assertEqual((problem.n, problem.m), (3, 2))
            self.assertEqual(shape([problem.n, problem.m]), ("list", ["int", "int"]))

    def test_left_out(self):
        problem = Problem(variables(1))
        self.assertEqual((problem.rows, problem.aims, problem.n, problem.m), ((), (), 1, 0))

    def test_class_values(self):
        self.assertEqual(
            (Problem.MOST_VARIABLES, Problem.MOST_ROWS, Problem.MOST_AIMS,
             Problem.MOST_SPREAD, Problem.MOST_ASSIGNMENTS),
            (16, 16, 3, 40, 1024),
        )

    def test_no_list_is_kept(self):
        parts = variables(2), rows(2, 2), aims(2, 2)
        problem = Problem(*parts)
        kept = problem.variables, problem.rows, problem.aims
        for part in parts:
            part.pop()
        self.assertEqual((problem.variables, problem.rows, problem.aims), kept)
        self.assertEqual([len(part) for part in kept], [2, 2, 2])
        self.assertIs("r1" in problem, True)
        self.assertEqual(len(list(problem)), 2)

    def test_lists_stay(self):
        parts = variables(2), rows(2, 2), aims(2, 2)
        copies = [list(part) for part in parts]
        Problem(*parts)
        self.assertEqual([list(part) for part in parts], copies)

    def test_spread_and_assignments(self):
        for spans, spread, assignments in (
            ((), 0, 1), ((0,), 0, 1), ((3,), 3, 4), ((1, 2, 0), 3, 6), ((40,), 40, 41),
        ):
            problem = Problem(whole(*spans) + [Variable("free", 0, 1000), Variable("low", 5)])
            self.assertEqual((problem.spread, problem.assignments), (spread, assignments))
            self.assertEqual(shape([problem.spread, problem.assignments]), ("list", ["int"] * 2))

    def test_spread_of_ends_that_are_fracs(self):
        problem = Problem([Variable("x", Frac(-4, 2), Frac(3), whole=True)])
        self.assertEqual((problem.spread, problem.assignments), (5, 6))
        self.assertEqual(shape([problem.spread, problem.assignments]), ("list", ["int"] * 2))


class Names(unittest.TestCase):
    def test_in(self):
        problem = sample()
        for name in ("x", "y", "z", "a", "b", "c"):
            self.assertIs(name in problem, True)
        for name in ("", "d", "X", "min", "var", "xy", "x "):
            self.assertIs(name in problem, False)

    def test_item(self):
        problem = sample()
        for item in problem.variables + problem.rows:
            self.assertIs(problem[item.name], item)

    def test_no_name(self):
        for name in ("", "d", "X", "min", "a" * 30):
            self.assertEqual(fault(sample().__getitem__, name), (NoName, {"name": name}))

    def test_iteration(self):
        problem = sample()
        self.assertEqual([row.name for row in problem], ["a", "b", "c"])
        self.assertEqual(tuple(problem), problem.rows)
        self.assertEqual(tuple(problem), problem.rows)
        self.assertEqual(list(Problem(variables(2))), [])


class VariableErrors(unittest.TestCase):
    def test_counts(self):
        for many in (1, 16):
            self.assertEqual(Problem(variables(many)).n, many)
        for many in (0, 17, 18):
            self.assertEqual(fault(Problem, variables(many)), count_fault("variables", many))
        self.assertEqual(fault(Problem, ()), count_fault("variables", 0))

    def test_same_name(self):
        made = [Variable(name) for name in ("a", "b", "c", "b", "a")]
        self.assertEqual(fault(Problem, made), same_fault("b"))
        self.assertEqual(fault(Problem, made[:3] + made[4:]), same_fault("a"))

    def test_spread(self):
        self.assertIsNone(fault(Problem, whole(40)))
        self.assertIsNone(fault(Problem, whole(20, 20)))
        self.assertEqual(fault(Problem, whole(41)), wide_fault(41, 42))
        self.assertEqual(fault(Problem, whole(20, 21)), wide_fault(41, 462))
        self.assertEqual(fault(Problem, whole(HUGE)), wide_fault(HUGE, HUGE + 1))

    def test_assignments(self):
        self.assertEqual(Problem(whole(*[1] * 10)).assignments, 1024)
        self.assertEqual(Problem(whole(15, 3, 0, 15)).assignments, 1024)
        self.assertEqual(fault(Problem, whole(24, 0, 40)), wide_fault(64, 1025))
        self.assertEqual(fault(Problem, whole(1, 2, 2, 2, 18)), wide_fault(25, 1026))
        self.assertEqual(fault(Problem, whole(*[1] * 11)), wide_fault(11, 2048))

    def test_kinds(self):
        _, found = fault(Problem, whole(41))
        self.assertEqual(shape([found["width"], found["many"]]), ("list", ["int", "int"]))

    def test_order(self):
        seventeen = variables(16, high=50, whole=True) + [Variable("x0")]
        self.assertEqual(fault(Problem, seventeen), count_fault("variables", 17))
        self.assertEqual(fault(Problem, whole(50) + whole(50)), same_fault("w0"))
        self.assertEqual(fault(Problem, whole(50), rows(17, 2), aims(4, 2)), wide_fault(50, 51))


class RowErrors(unittest.TestCase):
    def test_counts(self):
        for many in (0, 1, 16):
            self.assertEqual(Problem(variables(2), rows(many, 2)).m, many)
        for many in (17, 18):
            found = fault(Problem, variables(2), rows(many, 2))
            self.assertEqual(found, count_fault("rows", many))

    def test_same_name(self):
        made = rows(3, 2)
        self.assertEqual(fault(Problem, variables(2), made + [made[1]]), same_fault("r1"))
        named = Row("x1", [1, 1], "=", 0)
        self.assertEqual(fault(Problem, variables(2), made + [named]), same_fault("x1"))
        self.assertIsNone(fault(Problem, variables(1), [Row("x1", [1], "=", 0)]))

    def test_widths(self):
        for width in (1, 3, 16):
            found = fault(Problem, variables(2), rows(1, 2) + [Row("q", [1] * width, "=", 0)])
            self.assertEqual(found, width_fault(width, 2))

    def test_row_by_row(self):
        wrong = Row("q", [1], "=", 0)
        twice = Row("r0", [1, 1], "=", 0)
        both = Row("r0", [1, 1, 1], "=", 0)
        first = rows(1, 2)
        three = variables(2)
        self.assertEqual(fault(Problem, three, first + [wrong, twice]), width_fault(1, 2))
        self.assertEqual(fault(Problem, three, first + [twice, wrong]), same_fault("r0"))
        self.assertEqual(fault(Problem, three, first + [both]), same_fault("r0"))

    def test_order(self):
        seventeen = [Row("x0", [1], "=", 0)] * 17
        self.assertEqual(fault(Problem, variables(2), seventeen), count_fault("rows", 17))
        self.assertEqual(fault(Problem, variables(2), rows(1, 3), aims(4, 3)), width_fault(3, 2))


class AimErrors(unittest.TestCase):
    def test_counts(self):
        for many in (0, 1, 3):
            self.assertEqual(len(Problem(variables(2), (), aims(many, 2)).aims), many)
        for many in (4, 5):
            found = fault(Problem, variables(2), (), aims(many, 2))
            self.assertEqual(found, count_fault("aims", many))

    def test_widths(self):
        for wrong in (1, 3):
            made = aims(1, 2) + aims(1, wrong) + aims(1, 16)
            found = fault(Problem, variables(2), (), made)
            self.assertEqual(found, width_fault(wrong, 2))

    def test_order(self):
        self.assertEqual(fault(Problem, variables(2), (), aims(4, 3)), count_fault("aims", 4))


if __name__ == "__main__":
    unittest.main()
