"""Points 61 and 62: cuts."""

import random
import unittest

from bestpapers.cuts import rounded_cut, split_cut
from bestpapers.dual import dual_run
from bestpapers.errors import WrongWidth
from bestpapers.fracs import Frac
from bestpapers.judging import shows_row
from bestpapers.nodes import Node
from bestpapers.problems import Problem
from bestpapers.refusals import NoCut, NoFloor, NotEnded
from bestpapers.rows import Aim, Row
from bestpapers.tables import Table
from bestpapers.variables import Variable
from tests.algebra import plain
from tests.helpers import fault, shape
from tests.made_papers import some_prices
from tests.test_dual import some_node
from tests.test_judging import some_problem
from tests.whole_papers import whole_points

HALF = Frac(1, 2)


def halves():
    return Problem([Variable("x", 0, 3, whole=True), Variable("y", 0, 3, whole=True)],
                   [Row("r", [2, 2], "<=", 3)], [Aim("max", [1, 1])])


def ended(run):
    return run.stuck is None and not any(tall.parts[0] for tall in run.table.corner())


class SplitCuts(unittest.TestCase):
    def described(self, table, variable):
        """The cut by the words of point 61, in Fractions."""
        node, n = table.node, table.node.problem.n
        v = plain(table.corner()[variable].parts[1])
        k = v.numerator // v.denominator
        f = v - k
        coefficients, right = [0] * n, 1
        prices = {"low": [0] * (node.size - n), "high": [0] * (node.size - n)}
        for at, t in zip(table.chosen, map(plain, table.entry(variable))):
            s = 1 if table.side(at) == "low" else -1
            low, high = node.box_of(at)
            fixed = low is not None and low == high
            g = 0 if fixed or t == 0 else -t * s / f if t * s < 0 else t * s / (1 - f)
            coefficients = [c + g * s * plain(a) for c, a in zip(coefficients, node.row_of(at))]
            if g:
                right += g * s * plain(low if s == 1 else high)
            if at >= n:
                prices["low"][at - n] = g * s + t / f
                prices["high"][at - n] = g * s - t / (1 - f)
        return coefficients, right, k, prices["low"], prices["high"]

    def check(self, table, variable):
        node, n = table.node, table.node.problem.n
        coefficients, right, reason = split_cut(table, variable)
        many = node.size - n
        self.assertEqual(shape((coefficients, right)), ("tuple", [("tuple", ["Frac"] * n), "Frac"]))
        self.assertEqual(shape(reason), ("tuple", ["str", "int", "int"] + [("tuple", ["Frac"] * many)] * 2))
        _, place, k, low_prices, high_prices = reason
        told = ([plain(a) for a in coefficients], plain(right), k,
                [plain(y) for y in low_prices], [plain(y) for y in high_prices])
        self.assertEqual(told, self.described(table, variable))
        self.assertEqual((reason[0], place), ("split", variable))
        for side, prices in (("low", low_prices), ("high", high_prices)):
            self.assertEqual(node.half(variable, k, side).floor(coefficients, 0, prices), right)
        self.assertIs(shows_row(node, coefficients, right, reason), True)
        corner = [tall.parts[1] for tall in table.corner()]
        self.assertEqual(sum(plain(a) * plain(x) for a, x in zip(coefficients, corner)), plain(right) - 1)
        return coefficients, right

    def test_the_document(self):
        coefficients, right = self.check(dual_run(Node(halves())).table, 1)
        self.assertEqual((coefficients, right), ((0, -2), -2))

    def test_many_nodes(self):
        chance = random.Random(61)
        kinds = {}
        for _ in range(2500):
            node = some_node(chance, whole=6)
            run = dual_run(node)
            if not ended(run):
                for variable in (-1, 0, 9):
                    self.assertEqual(fault(split_cut, run.table, variable), (NotEnded, {}))
                continue
            for variable, tall in enumerate(run.table.corner()):
                whole = node.problem.variables[variable].whole
                if not whole or tall.parts[1].is_whole:
                    self.assertEqual(fault(split_cut, run.table, variable), (NoCut, {"variable": variable}))
                    continue
                self.check(run.table, variable)
                for at, t in zip(run.table.chosen, run.table.entry(variable)):
                    low, high = node.box_of(at)
                    fixed = low is not None and low == high
                    kind = (run.table.side(at), "fixed" if fixed else "zero" if not t else "above" if t > 0 else "below")
                    kinds[kind] = kinds.get(kind, 0) + 1
        for side in ("low", "high"):
            for kind in ("zero", "above", "below"):
                self.assertGreater(kinds.get((side, kind), 0), 3, kinds)
        self.assertGreater(kinds.get(("low", "fixed"), 0) + kinds.get(("high", "fixed"), 0), 3, kinds)

    def test_all_whole_points_are_kept(self):
        chance = random.Random(62)
        cuts = 0
        for _ in range(600):
            problem = some_problem(chance)
            node, points = Node(problem), whole_points(problem)
            for _ in range(3):
                run = dual_run(node)
                places = [at for at, tall in enumerate(run.table.corner()) if not tall.parts[1].is_whole]
                if run.stuck is not None or not places:
                    break
                cuts += 1
                coefficients, right = self.check(run.table, chance.choice(places))
                for point in points:
                    if node.admits(point):
                        self.assertGreaterEqual(sum(plain(a) * x for a, x in zip(coefficients, point)), plain(right))
                node = node.derived(coefficients, right)
        self.assertGreater(cuts, 40)

    def test_not_ended_before_no_cut(self):
        table = Table(Node(halves()), (0, 1))
        self.assertIsNotNone(table.outside())
        for variable in (-1, 0, 1, 2, 3):
            self.assertEqual(fault(split_cut, table, variable), (NotEnded, {}))
        problem = Problem([Variable("x", 0, 3, whole=True), Variable("y")], [Row("r", [2, 0], "=", 3)], [Aim("max", [0, 1])])
        run = dual_run(Node(problem))
        self.assertIsNone(run.stuck)
        for variable in (-1, 0, 1, 2):
            self.assertEqual(fault(split_cut, run.table, variable), (NotEnded, {}))

    def test_no_cut(self):
        table = dual_run(Node(halves())).table
        self.assertEqual([str(tall.parts[1]) for tall in table.corner()], ["0", "3/2"])
        for variable in (-2, -1, 0, 2, 3):
            self.assertEqual(fault(split_cut, table, variable), (NoCut, {"variable": variable}))
        problem = Problem([Variable("x", 0, 3, whole=True), Variable("y", 0, 3)], [Row("r", [2, 2], "=", 3)])
        table = dual_run(Node(problem)).table
        self.assertEqual(fault(split_cut, table, 1), (NoCut, {"variable": 1}))


class RoundedCuts(unittest.TestCase):
    def test_the_document(self):
        found = rounded_cut(Node(halves()), [Frac(-1, 2)])
        self.assertEqual(found, ((-1, -1), -1, ("rounded", (Frac(-1, 2),))))
        self.assertEqual(shape(found), ("tuple", [("tuple", ["Frac"] * 2), "Frac", ("tuple", ["str", ("tuple", ["Frac"])])]))

    def test_fractions_below_and_above_a_whole_number(self):
        problem = Problem([Variable("x", 0, 3, whole=True), Variable("y", 0, 3, whole=True), Variable("z", 0, 3)],
                          [Row("r", [3, 1, 5], ">=", 4), Row("s", [1, 2, 0], "=", 3)])
        for prices, expected in (
            ((1, 0), (3, 1, 0)), ((HALF, 0), (2, 1, 0)), ((Frac(1, 3), 0), (1, 1, 0)),
            ((Frac(34, 100), 0), (2, 1, 0)), ((Frac(33, 100), 0), (1, 1, 0)), ((0, -HALF), (0, -1, 0)),
            ((0, Frac(-1, 3)), (0, 0, 0)), ((0, Frac(-51, 50)), (-1, -2, 0)), ((1, 1), (4, 3, 0)), ((0, 0), (0, 0, 0)),
        ):
            node = Node(problem)
            bound = node.floor(expected, 0, prices)
            if bound is None:
                self.assertEqual(fault(rounded_cut, node, prices), (NoFloor, {}))
            else:
                self.assertEqual(rounded_cut(node, prices), (expected, bound.ceiling(), ("rounded", prices)))

    def test_many_nodes(self):
        chance = random.Random(63)
        kinds = {"cut": 0, "floor": 0}
        for _ in range(500):
            node = some_node(chance, whole=5)
            problem = node.problem
            prices = some_prices(chance, node)
            rows = [row.coefficients for row in problem] + [row for row, _ in node.extra]
            sums = [sum(plain(y) * plain(row[at]) for y, row in zip(prices, rows)) for at in range(problem.n)]
            row = [-(-number // 1) if variable.whole else 0 for number, variable in zip(sums, problem.variables)]
            bound = node.floor(row, 0, prices)
            if bound is None:
                kinds["floor"] += 1
                self.assertEqual(fault(rounded_cut, node, prices), (NoFloor, {}))
                continue
            kinds["cut"] += 1
            coefficients, right, reason = rounded_cut(node, list(prices))
            self.assertEqual((coefficients, right, reason), (tuple(row), bound.ceiling(), ("rounded", prices)))
            self.assertIs(shows_row(node, coefficients, right, reason), True)
            many = node.size - problem.n
            self.assertEqual(shape(reason), ("tuple", ["str", ("tuple", ["Frac"] * many)]))
        self.assertGreater(min(kinds.values()), 20, kinds)

    def test_errors(self):
        node = Node(halves()).derived([1, 1], 0)
        for many in (0, 1, 3):
            self.assertEqual(fault(rounded_cut, node, [1] * many), (WrongWidth, {"have": many, "need": 2}))
        for prices in ((1, 0), (HALF, 1), (0, -1)):
            self.assertEqual(fault(rounded_cut, node, prices), (NoFloor, {}))
        loose = Node(Problem([Variable("x")], [Row("r", [1], "<=", 3)]))
        self.assertEqual(fault(rounded_cut, loose, [-1]), None)
        loose = Node(Problem([Variable("x")], [Row("r", [1], ">=", 3)]))
        self.assertEqual(fault(rounded_cut, loose, [1]), (NoFloor, {}))


if __name__ == "__main__":
    unittest.main()
