"""Point 55: the lines of a table."""

import random
import unittest

from bestpapers.dual import dual_run
from bestpapers.floorlines import floor_lines
from bestpapers.fracs import Frac
from bestpapers.judging import shows
from bestpapers.nodes import Node
from bestpapers.problems import Problem
from bestpapers.refusals import NoStage, NotEnded
from bestpapers.rows import Aim, Row
from bestpapers.stages import stage_constants, stage_rows
from bestpapers.tables import Table
from bestpapers.variables import Variable
from tests.algebra import plain
from tests.helpers import fault, shape
from tests.test_dual import some_node


def basic():
    return Problem([Variable("x", 0, 3), Variable("y", 0, 3)], [Row("r", [1, 1], ">=", 2)],
                   [Aim("min", [1, 1])])


def shown(node, targets, line):
    """The number that a line shows, by the words of point 35."""
    problem, (multipliers, prices) = node.problem, line
    stage = len(multipliers)
    row, constant = list(stage_rows(problem)[stage]), stage_constants(problem)[stage]
    total = Frac(0)
    for u, target, other, k in zip(multipliers, targets, stage_rows(problem), stage_constants(problem)):
        row = [a - u * b for a, b in zip(row, other)]
        constant = constant - u * k
        total = total + u * target
    bound = node.floor(row, constant, prices)
    return None if bound is None else total + bound


def described(table, stage):
    """A line by the words of point 55, in Fractions."""
    n = table.node.problem.n
    stages = [[plain(number) for number in table.stage_entry(s)] for s in range(stage + 1)]
    columns = {at: [plain(number) for number in table.column(at)] for at in table.chosen}
    numbers, multipliers = stages[stage], [0] * stage
    for i in range(stage - 1, -1, -1):
        quotients = []
        for place, at in enumerate(table.chosen):
            low, high = table.node.box_of(at)
            first = next(s for s, number in enumerate(columns[at]) if number)
            if first == i and not (low is not None and low == high):
                quotients.append(numbers[place] / columns[at][i])
        if any(quotient < 0 for quotient in quotients):
            w = max(-quotient for quotient in quotients)
            multipliers[i] = -w
            numbers = [a + w * b for a, b in zip(numbers, stages[i])]
    prices = [0] * (table.node.size - n)
    for at, number in zip(table.chosen, numbers):
        if at >= n:
            prices[at - n] = number
    return multipliers, prices


class Lines(unittest.TestCase):
    def check(self, table):
        node = table.node
        stages = len(node.problem.aims) + node.problem.n
        far = [bool(tall.parts[0]) for tall in table.vector()] + [True]
        targets = [tall.parts[1] for tall in table.vector()]
        most = far.index(True)
        for many in range(most + 1):
            lines = floor_lines(table, many)
            self.assertEqual(len(lines), many)
            for stage, line in enumerate(lines):
                self.assertEqual(shape(line), ("tuple", [("tuple", ["Frac"] * stage),
                                                         ("tuple", ["Frac"] * (node.size - node.problem.n))]))
                self.assertEqual(shown(node, targets, line), targets[stage])
                told = described(table, stage)
                self.assertEqual(tuple([plain(u) for u in row] for row in line), tuple(map(list, told)))
        for many in range(most + 1, stages + 2):
            self.assertEqual(fault(floor_lines, table, many), (NoStage, {"stage": many}))
        return any(number for stage in range(most) for number in floor_lines(table, most)[stage][0])

    def test_the_basic_problem(self):
        table = dual_run(Node(basic())).table
        self.assertEqual(floor_lines(table, 0), ())
        self.assertEqual(floor_lines(table, 3), (((), (1,)), ((0,), (0,)), ((0, -1), (1,))))

    def test_many_nodes(self):
        chance = random.Random(55)
        kinds = {True: 0, False: 0, "stuck": 0}
        for _ in range(400):
            run = dual_run(some_node(chance))
            if run.stuck is not None:
                kinds["stuck"] += 1
                for many in (-1, 0, 1, 99):
                    self.assertEqual(fault(floor_lines, run.table, many), (NotEnded, {}))
                continue
            kinds[self.check(run.table)] += 1
        self.assertGreater(min(kinds.values()), 30, kinds)

    def test_accepted(self):
        chance = random.Random(56)
        for _ in range(100):
            run = dual_run(Node(some_node(chance).problem))
            if run.stuck is not None:
                continue
            far = [bool(tall.parts[0]) for tall in run.table.vector()] + [True]
            for many in range(far.index(True) + 1):
                targets = [tall.parts[1] for tall in run.table.vector()[:many]]
                paper = ("floors", floor_lines(run.table, many))
                self.assertIs(shows(run.table.node.problem, targets, paper), True)
                if many:
                    targets[-1] = targets[-1] + Frac(1, 10 ** 30)
                    self.assertIs(shows(run.table.node.problem, targets, paper), False)

    def test_fixed_items(self):
        problem = Problem([Variable("x", 2, 2), Variable("y", 0, 3)], [Row("r", [1, 1], "=", 4)],
                          [Aim("max", [1, 2]), Aim("min", [3, 1])])
        self.assertFalse(self.check(dual_run(Node(problem)).table))

    def test_multipliers(self):
        problem = Problem([Variable("x", 0, 3), Variable("y", 0, 3)], (), [Aim("min", [1, 2]), Aim("max", [3, 1])])
        table = dual_run(Node(problem)).table
        self.assertEqual(floor_lines(table, 4), (((), ()), ((-3,), ()), ((0, 0), ()), ((0, 0, 0), ())))
        self.assertTrue(self.check(table))


class Refusals(unittest.TestCase):
    def test_not_ended_first(self):
        table = Table(Node(basic()), (0, 1))
        self.assertEqual(table.outside(), 2)
        for many in (-1, 0, 1, 3, 4, 99):
            self.assertEqual(fault(floor_lines, table, many), (NotEnded, {}))

    def test_how_many(self):
        table = dual_run(Node(basic())).table
        for many in (-2, -1, 4, 5):
            self.assertEqual(fault(floor_lines, table, many), (NoStage, {"stage": many}))
        for many in range(4):
            self.assertEqual(len(floor_lines(table, many)), many)

    def test_a_far_part(self):
        problem = Problem([Variable("x"), Variable("y", 0, 2)], [Row("r", [-1, 1], "<=", 1)],
                          [Aim("max", [0, 1]), Aim("max", [1, 0])])
        table = dual_run(Node(problem)).table
        self.assertEqual(len(floor_lines(table, 1)), 1)
        for many in (2, 3, 4, 5):
            self.assertEqual(fault(floor_lines, table, many), (NoStage, {"stage": many}))


if __name__ == "__main__":
    unittest.main()
