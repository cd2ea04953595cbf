"""Points 28 and 29: problems side by side, rows multiplied and put in order."""

import unittest

from bestpapers.errors import (
    BadCount, BadFactor, BadOrder, NoName, SameName, TooWide, UnlikeAims,
)
from bestpapers.fracs import Frac
from bestpapers.joining import beside, reordered, scaled
from bestpapers.problems import Problem
from bestpapers.rows import Aim, Row
from bestpapers.variables import Variable
from tests.helpers import HUGE, fault, picture, sample, shape, variables


def named(letter, many, aims=(), rows=(), **ends):
    """A problem with variables and rows whose names begin with a letter."""
    return Problem(
        [Variable(f"{letter}{at}", **ends) for at in range(many)],
        [Row(f"{letter}_r{at}", row, "<=", right) for at, (row, right) in enumerate(rows)], aims)


class Beside(unittest.TestCase):
    def test_both_problems(self):
        left = Problem([Variable("x", 0, 5, whole=True), Variable("y", None, 2)],
                       [Row("a", [1, 2], "<=", 3)], [Aim("min", [1, -1], 4), Aim("max", [0, 1])])
        right = Problem([Variable("z", 1, 2, pull="up")],
                        [Row("b", [5], ">=", 6), Row("c", [Frac(1, 2)], "=", 7)],
                        [Aim("min", [8], Frac(1, 2)), Aim("max", [9], -2)])
        before = picture(left), picture(right)
        found = beside(left, right)
        self.assertEqual(picture(found), (
            [("x", 0, 5, True, "down"), ("y", None, 2, False, "up"), ("z", 1, 2, False, "up")],
            [("a", (1, 2, 0), "<=", 3), ("b", (0, 0, 5), ">=", 6), ("c", (0, 0, Frac(1, 2)), "=", 7)],
            [("min", (1, -1, 8), Frac(9, 2)), ("max", (0, 1, 9), -2)],
        ))
        self.assertEqual((found.n, found.m), (3, 3))
        for row in found.rows + found.aims:
            self.assertEqual(shape(row.coefficients), ("tuple", ["Frac"] * 3))
        self.assertEqual((picture(left), picture(right)), before)

    def test_without_rows_and_aims(self):
        found = beside(named("a", 2), named("b", 1))
        self.assertEqual([variable.name for variable in found.variables], ["a0", "a1", "b0"])
        self.assertEqual((found.rows, found.aims), ((), ()))

    def test_other_numbers_of_aims(self):
        aims = [Aim("min", [1]), Aim("max", [1]), Aim("min", [1])]
        for left in range(4):
            for right in range(4):
                found = fault(beside, named("a", 1, aims[:left]), named("b", 1, aims[:right]))
                expected = None if left == right else (UnlikeAims, {"left": left, "right": right})
                self.assertEqual(found, expected)

    def test_other_senses(self):
        least, most = Aim("min", [1]), Aim("max", [1])
        found = fault(beside, named("a", 1, [least, least]), named("b", 1, [least, most]))
        self.assertEqual(found, (UnlikeAims, {"left": 2, "right": 2}))
        found = fault(beside, named("a", 1, [most]), named("b", 1, [least]))
        self.assertEqual(found, (UnlikeAims, {"left": 1, "right": 1}))

    def test_unlike_aims_are_first(self):
        found = fault(beside, named("a", 16), named("a", 1, [Aim("min", [1])]))
        self.assertEqual(found, (UnlikeAims, {"left": 0, "right": 1}))

    def test_too_many_variables(self):
        self.assertEqual(beside(named("a", 8), named("b", 8)).n, 16)
        for left, right in ((9, 8), (16, 1), (1, 16), (16, 16)):
            rows = [([1] * left, 0)] * 16
            found = fault(beside, named("a", left, (), rows), named("a", right, (), [([1] * right, 0)]))
            self.assertEqual(found, (BadCount, {"what": "variables", "many": left + right}))

    def test_equal_names(self):
        row = Row("x0", [1], "<=", 1)
        y = Variable("y")
        self.assertEqual(fault(beside, sample(), sample()), (SameName, {"name": "x"}))
        found = fault(beside, Problem([y], [row]), Problem(variables(1)))
        self.assertEqual(found, (SameName, {"name": "x0"}))
        found = fault(beside, Problem(variables(1)), Problem([y], [row]))
        self.assertEqual(found, (SameName, {"name": "x0"}))
        found = fault(beside, Problem([Variable("z")], [row]), Problem([y], [row]))
        self.assertEqual(found, (SameName, {"name": "x0"}))

    def test_too_wide(self):
        left, right = named("a", 1, high=20, whole=True), named("b", 1, high=21, whole=True)
        self.assertEqual(fault(beside, left, right), (TooWide, {"width": 41, "many": 21 * 22}))
        left, right = named("a", 1, high=20, whole=True), named("b", 1, high=20, whole=True)
        self.assertEqual(beside(left, right).assignments, 441)

    def test_too_many_rows(self):
        nine, seven = [([1], 0)] * 9, [([1], 0)] * 7
        self.assertEqual(beside(named("a", 1, (), nine), named("b", 1, (), seven)).m, 16)
        found = fault(beside, named("a", 1, (), nine), named("b", 1, (), nine[1:]))
        self.assertEqual(found, (BadCount, {"what": "rows", "many": 17}))


class Scaled(unittest.TestCase):
    def check(self, name, factor, at, expected):
        problem = sample()
        found = scaled(problem, name, factor)
        rows = picture(sample())[1]
        rows[at] = expected
        self.assertEqual(picture(found), (picture(sample())[0], rows, picture(sample())[2]))
        self.assertEqual(picture(problem), picture(sample()))
        self.assertEqual(shape(found.rows[at].coefficients), ("tuple", ["Frac"] * 3))
        self.assertEqual(shape(found.rows[at].right), "Frac")

    def test_above_zero(self):
        self.check("a", 2, 0, ("a", (2, 4, 0), "<=", 12))
        self.check("b", Frac(1, 2), 1, ("b", (0, Frac(1, 6), Frac(-1, 2)), ">=", -2))
        self.check("c", 1, 2, ("c", (2, 0, 1), "=", Frac(5, 2)))

    def test_below_zero(self):
        self.check("a", -1, 0, ("a", (-1, -2, 0), ">=", -6))
        self.check("b", Frac(-3, 2), 1, ("b", (0, Frac(-1, 2), Frac(3, 2)), "<=", 6))
        self.check("c", -2, 2, ("c", (-4, 0, -2), "=", -5))
        self.check("a", Frac(-1, HUGE), 0, ("a", (Frac(-1, HUGE), Frac(-2, HUGE), 0), ">=", Frac(-6, HUGE)))

    def test_zero(self):
        for zero in (0, Frac(0)):
            self.assertEqual(fault(scaled, sample(), "a", zero), (BadFactor, {}))

    def test_strange_names(self):
        for name in ("", "q", "x", "A", "a "):
            for factor in (0, 2):
                self.assertEqual(fault(scaled, sample(), name, factor), (NoName, {"name": name}))


class Reordered(unittest.TestCase):
    def test_orders(self):
        for order in ((2, 0, 1), [2, 0, 1], [0, 1, 2], (1, 0, 2), [2, 1, 0]):
            before = list(order)
            problem = sample()
            found = reordered(problem, order)
            rows = picture(sample())[1]
            self.assertEqual(picture(found)[1], [rows[at] for at in order])
            self.assertEqual(picture(found)[0::2], picture(sample())[0::2])
            self.assertEqual(picture(problem), picture(sample()))
            self.assertEqual(list(order), before)
            self.assertEqual(found["a"].right, 6)

    def test_a_list_that_changes_later(self):
        order = [2, 0, 1]
        found = reordered(sample(), order)
        order.reverse()
        self.assertEqual([row.name for row in found], ["c", "a", "b"])

    def test_without_rows(self):
        bare = Problem(variables(1))
        self.assertEqual(reordered(bare, []).rows, ())
        self.assertEqual(fault(reordered, bare, [0]), (BadOrder, {"order": (0,)}))

    def test_bad_orders(self):
        for order in ([], [0, 1], [0, 1, 1], [0, 0, 0], [0, 1, 3], [-1, 0, 1], [0, 1, 2, 2],
                      [0, 1, 2, 3], [1, 2, 3], [0, 1, -1], [HUGE, 0, 1], [2, 2, 1, 0]):
            for form in (list, tuple):
                found = fault(reordered, sample(), form(order))
                self.assertEqual(found, (BadOrder, {"order": tuple(order)}))
                self.assertEqual(found[1]["order"].__class__, tuple)


if __name__ == "__main__":
    unittest.main()
