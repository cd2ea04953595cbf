"""Points 52, 53 and 54: dual runs."""

import random
import unittest

from bestpapers.dual import Run, dual_run, empty_prices
from bestpapers.fracs import Frac
from bestpapers.nodes import Node
from bestpapers.problems import Problem
from bestpapers.refusals import BadHeld, Dependent, NotStuck
from bestpapers.rows import Aim, Row
from bestpapers.tables import Table
from bestpapers.variables import Variable
from tests.algebra import some_mixed, some_row
from tests.corner_search import gets_better, first_rows, told
from tests.helpers import fault, shape
from tests.test_heldsets import searched


def basic():
    return Problem([Variable("x", 0, 3), Variable("y", 0, 3)], [Row("r", [1, 1], ">=", 2)],
                   [Aim("min", [1, 1])])


def some_node(chance, derived=2, whole=3):
    """A node, mostly with halves and derived rows."""
    node = Node(some_mixed(chance, 3, 4, whole=whole))
    for at, variable in enumerate(node.problem.variables):
        if variable.whole and variable.low < variable.high and chance.randint(0, 1):
            k = chance.randint(variable.low.num, variable.high.num - 1)
            node = node.half(at, k, chance.choice(("low", "high")))
    for _ in range(chance.randint(0, derived)):
        node = node.derived(some_row(chance, node.problem.n), chance.randint(-2, 2))
    return node


class Runs(unittest.TestCase):
    def walk(self, node, start):
        """The run by the words of point 52."""
        table = Table(node, start)
        path = [table.chosen]
        while table.outside() is not None and table.helpers(table.outside()):
            out = table.outside()
            following = table.exchanged(table.best_helper(out), out)
            self.assertLess([tall.parts for tall in table.vector()], [tall.parts for tall in following.vector()])
            table = following
            path.append(table.chosen)
        return tuple(path), table

    def check(self, node, start, passed):
        run = dual_run(node, passed)
        path, table = self.walk(node, start)
        self.assertIsInstance(run, Run)
        self.assertEqual(run.path, path)
        self.assertEqual(len(set(path)), len(path))
        self.assertEqual(shape(run.path), ("tuple", [("tuple", ["int"] * node.problem.n)] * len(path)))
        self.assertEqual((run.table.chosen, run.table.corner()), (table.chosen, table.corner()))
        self.assertIs(run.table.node, node)
        self.assertIsInstance(run.table, Table)
        self.assertEqual(run.stuck, table.outside())
        self.assertIn(shape(run.stuck), ("int", "NoneType"))
        return run

    def test_from_each_start(self):
        chance = random.Random(52)
        lengths = []
        for _ in range(120):
            node = some_node(chance)
            first = self.check(node, range(node.problem.n), None)
            lengths.append(len(first.path))
            for start in chance.sample(searched(node), min(4, len(searched(node)))):
                turned = list(start)
                chance.shuffle(turned)
                run = self.check(node, start, turned)
                self.check(node, start, tuple(turned))
                self.assertEqual(run.path[0], start)
                self.assertEqual(run.stuck is None, first.stuck is None)
                if run.stuck is None:
                    self.assertEqual(run.table.vector(), first.table.vector())
                    self.assertEqual(run.table.corner(), first.table.corner())
        self.assertGreater(max(lengths), 3)

    def test_the_end_is_the_start(self):
        run = self.check(Node(basic()), (0, 2), (2, 0))
        self.assertEqual((run.path, run.stuck), (((0, 2),), None))

    def test_errors(self):
        node = Node(Problem(basic().variables, [Row("r", [1, 1], ">=", 2), Row("s", [2, 2], ">=", 1)]))
        for start in ((), (0,), (0, 0), (4, 0), (-1, 1), (0, 1, 2)):
            self.assertEqual(fault(dual_run, node, start), (BadHeld, {"chosen": start}))
            self.assertEqual(fault(dual_run, node, list(start)), (BadHeld, {"chosen": start}))
        self.assertEqual(fault(dual_run, node, [3, 2]), (Dependent, {"at": 3}))

    def test_the_argument_stays(self):
        start = [2, 1]
        run = dual_run(Node(basic()), start)
        self.assertEqual(start, [2, 1])
        start[0] = 0
        self.assertEqual(run.path[0], (1, 2))


class Stuck(unittest.TestCase):
    def accepted(self, node, run):
        """The prices by which the node is empty, at the places that point 53 tells."""
        prices = empty_prices(run)
        n, table = node.problem.n, run.table
        self.assertEqual(shape(prices), ("tuple", ["Frac"] * (node.size - n)))
        self.assertGreater(node.floor([0] * n, 0, prices), 0)
        low, _ = node.box_of(run.stuck)
        below = low is not None and table.value(run.stuck) < table.value(run.stuck).plain(low)
        expected = [Frac(0)] * (node.size - n)
        for at, t in zip(table.chosen, table.entry(run.stuck)):
            if at >= n:
                expected[at - n] = -t if below else t
        if run.stuck >= n:
            expected[run.stuck - n] = Frac(1 if below else -1)
        self.assertEqual(prices, tuple(expected))
        return "below" if below else "above"

    def check(self, node, stuck, side):
        run = dual_run(node)
        self.assertEqual(run.stuck, stuck)
        self.assertEqual(self.accepted(node, run), side)

    def test_a_row(self):
        self.check(Node(Problem([Variable("x", 1, 1)], [Row("r", [1], ">=", 2)])), 1, "below")
        self.check(Node(Problem([Variable("x", 1, 2)], [Row("r", [1], "<=", 0)])), 1, "above")
        self.check(Node(Problem([Variable("x", 5, 5)], [Row("r", [2], "=", 11)])), 1, "below")
        self.check(Node(Problem([Variable("x", 1, 2)], [Row("r", [0], "<=", -1)])), 1, "above")

    def test_a_derived_row(self):
        self.check(Node(Problem([Variable("x", 1, 1)])).derived([1], 2), 1, "below")
        self.check(Node(Problem([Variable("x", 0, 1)])).derived([1], 0).derived([-1], 1), 2, "below")

    def test_a_variable(self):
        self.check(Node(Problem([Variable("x", 0, 1)], [Row("r", [1], ">=", 2)])), 0, "above")
        self.check(Node(Problem([Variable("x", 0, 1, pull="up")], [Row("r", [1], "<=", -2)])), 0, "below")
        self.check(Node(Problem([Variable("x", 0, 1)])).derived([2], 3), 0, "above")

    def test_many_nodes(self):
        chance = random.Random(53)
        kinds = {}
        for _ in range(1500):
            node = some_node(chance)
            run = dual_run(node, chance.choice(searched(node)))
            if run.stuck is None:
                self.assertEqual(fault(empty_prices, run), (NotStuck, {}))
                continue
            side = self.accepted(node, run)
            n, m = node.problem.n, node.problem.m
            kind = "variable" if run.stuck < n else "row" if run.stuck < n + m else "derived"
            kinds[side, kind] = kinds.get((side, kind), 0) + 1
        for kind in (("below", "variable"), ("above", "variable"), ("below", "row"), ("above", "row"),
                     ("below", "derived")):
            self.assertGreater(kinds.get(kind, 0), 2, kinds)

    def test_not_stuck(self):
        self.assertEqual(fault(empty_prices, dual_run(Node(basic()))), (NotStuck, {}))


class Corners(unittest.TestCase):
    def test_told_and_endless(self):
        chance = random.Random(54)
        kinds = {}
        for _ in range(250):
            problem = some_mixed(chance, 3, 3)
            kind, at, point = told(problem)
            run = dual_run(Node(problem), chance.choice(searched(Node(problem))))
            kinds[kind] = kinds.get(kind, 0) + 1
            self.assertEqual(run.stuck is not None, kind == "empty")
            if kind == "empty":
                continue
            far = [bool(tall.parts[0]) for tall in run.table.vector()]
            corner = run.table.corner()
            if kind == "told":
                self.assertFalse(any(far))
                self.assertEqual(corner, tuple(tall.plain(number) for tall, number in zip(corner, point)))
            else:
                self.assertEqual(far.index(True), at)
                ray = [tall.parts[0] for tall in corner]
                self.assertTrue(gets_better(problem, ray))
                self.assertFalse(any(first_rows(problem, ray)[:at]))
        self.assertGreater(min(kinds.values()), 10, kinds)
        self.assertEqual(len(kinds), 3)

    def test_an_endless_aim(self):
        problem = Problem([Variable("x"), Variable("y")], [Row("r", [1, -1], "<=", 1)], [Aim("max", [1, 0])])
        run = dual_run(Node(problem))
        self.assertEqual((run.stuck, run.path), (None, ((0, 1), (0, 2))))
        self.assertEqual([tall.parts for tall in run.table.vector()], [(-1, 0), (1, 0), (1, -1)])
        self.assertEqual([tall.parts[0] for tall in run.table.corner()], [1, 1])


if __name__ == "__main__":
    unittest.main()
