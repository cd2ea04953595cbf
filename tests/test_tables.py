"""Point 46 (and the corner of point 54): tables."""

import itertools
import random
import unittest

from bestpapers.errors import NoItem, WrongWidth
from bestpapers.fracs import Frac
from bestpapers.nodes import Node
from bestpapers.problems import Problem
from bestpapers.refusals import BadHeld, Dependent, IsHeld, NoStage, NotHeld
from bestpapers.rows import Aim, Row
from bestpapers.stages import stage_constants, stage_rows
from bestpapers.tables import Table
from bestpapers.tall import Tall
from bestpapers.variables import Variable
from tests.algebra import first_dependent, plain, rank, some_mixed, some_row
from tests.helpers import fault, shape
from tests.test_heldsets import searched

HALF = Frac(1, 2)
FAR = 10 ** 30


def basic():
    """Items 0, 1: x, y from 0 to 3; item 2: x + y >= 2."""
    return Problem([Variable("x", 0, 3), Variable("y", 0, 3)], [Row("r", [1, 1], ">=", 2)],
                   [Aim("min", [1, 1])])


def some_tables(seed, many, derived=2):
    """Tables of little nodes, some with derived rows and halves."""
    chance = random.Random(seed)
    for _ in range(many):
        node = Node(some_mixed(chance, 3, 3, whole=3))
        for _ in range(chance.randint(0, derived)):
            node = node.derived(some_row(chance, node.problem.n), chance.randint(-2, 2))
        for at, variable in enumerate(node.problem.variables):
            if variable.whole and variable.low < variable.high:
                node = node.half(at, variable.low.num, chance.choice(("low", "high")))
        yield chance, Table(node, chance.choice(searched(node)))


def combined(numbers, rows):
    return tuple(sum(plain(t) * plain(row[k]) for t, row in zip(numbers, rows)) for k in range(len(rows[0])))


def number_of(tall):
    """A Tall with two parts, with a great number in the place of M."""
    return plain(tall.parts[1]) + plain(tall.parts[0]) * FAR


def total(row, point):
    return sum(plain(a) * x for a, x in zip(row, point))


def box_of(node, at):
    low, high = node.box_of(at)
    return (-FAR if low is None else plain(low), FAR if high is None else plain(high))


class Making(unittest.TestCase):
    def test_any_order(self):
        node = Node(basic()).derived([1, -1], 0)
        for chosen in itertools.permutations((0, 3)):
            for passed in (chosen, list(chosen)):
                table = Table(node, passed)
                self.assertEqual(table.chosen, (0, 3))
                self.assertIs(table.node, node)

    def test_bad_held(self):
        node = Node(basic())
        for chosen in ((), (0,), (0, 0), (0, 1, 2), (0, 3), (-1, 0), (3, 0), (2, 2), (1, 0, 1), (7, 7, 7)):
            for passed in (chosen, list(chosen)):
                self.assertEqual(fault(Table, node, passed), (BadHeld, {"chosen": chosen}))
        self.assertIsNone(fault(Table, node.derived([1, 0], 0), (3, 1)))

    def test_dependent(self):
        problem = Problem(basic().variables, [Row("r", [1, 1], ">=", 2), Row("s", [3, 3], "<=", 9),
                                              Row("t", [0, 0], "<=", 9), Row("u", [0, 2], "<=", 9)])
        node = Node(problem).derived([0, 1], 0)
        for chosen, at in (((3, 2), 3), ((2, 3), 3), ((4, 0), 4), ((4, 5), 4), ((5, 1), 5), ((6, 1), 6), ((6, 5), 6)):
            self.assertEqual(fault(Table, node, chosen), (Dependent, {"at": at}))

    def test_dependent_against_ranks(self):
        chance = random.Random(460)
        for _ in range(150):
            node = Node(some_mixed(chance, 3, 3))
            for chosen in itertools.combinations(range(node.size), node.problem.n):
                at = first_dependent([node.row_of(k) for k in chosen])
                expected = None if at is None else (Dependent, {"at": chosen[at]})
                self.assertEqual(fault(Table, node, chosen[::-1]), expected)

    def test_a_list_that_changes_later(self):
        chosen = [2, 0]
        table = Table(Node(basic()), chosen)
        chosen[0] = 1
        self.assertEqual((table.chosen, table.value(2)), ((0, 2), Tall.plain(2)))


class Entries(unittest.TestCase):
    def test_entries(self):
        for chance, table in some_tables(461, 80):
            node, n = table.node, table.node.problem.n
            rows = [node.row_of(at) for at in table.chosen]
            for at in range(node.size):
                self.assertEqual(combined(table.entry(at), rows), tuple(map(plain, node.row_of(at))))
                self.assertEqual(shape(table.entry(at)), ("tuple", ["Frac"] * n))
            for stage, row in enumerate(stage_rows(node.problem)):
                self.assertEqual(combined(table.stage_entry(stage), rows), tuple(map(plain, row)))
                self.assertEqual(shape(table.stage_entry(stage)), ("tuple", ["Frac"] * n))
            row = some_row(chance, n, 9)
            self.assertEqual(combined(table.coordinates(row), rows), tuple(map(plain, row)))
            self.assertEqual(shape(table.coordinates(tuple(row))), ("tuple", ["Frac"] * n))

    def test_columns_and_sides(self):
        sides = set()
        for _, table in some_tables(462, 80):
            problem = table.node.problem
            stages = range(len(problem.aims) + problem.n)
            for place, at in enumerate(table.chosen):
                column = table.column(at)
                self.assertEqual(column, tuple(table.stage_entry(stage)[place] for stage in stages))
                self.assertEqual(shape(column), ("tuple", ["Frac"] * len(stages)))
                first = next(number for number in column if number)
                self.assertEqual(table.side(at), "low" if first > 0 else "high")
                sides.add(table.side(at))
        self.assertEqual(sides, {"low", "high"})

    def test_ends(self):
        ends = {True: 0, False: 0}
        for _, table in some_tables(463, 80):
            for at in table.chosen:
                low, high = table.node.box_of(at)
                end = low if table.side(at) == "low" else high
                far = Tall((-1, 0)) if table.side(at) == "low" else Tall((1, 0))
                self.assertEqual(table.end(at), far if end is None else Tall((0, end)))
                ends[end is None] += 1
        self.assertGreater(min(ends.values()), 20)

    def test_refusals(self):
        table = Table(Node(basic()).derived([1, 2], 3), (3, 0))
        for at in (-5, -1, 1, 2, 4, 5):
            for method in (table.column, table.side, table.end):
                self.assertEqual(fault(method, at), (NotHeld, {"at": at}))
        for at in (-2, -1, 4, 5):
            for method in (table.entry, table.value, table.helpers, table.best_helper):
                self.assertEqual(fault(method, at), (NoItem, {"at": at}))
        for stage in (-4, -1, 3, 4):
            self.assertEqual(fault(table.stage_entry, stage), (NoStage, {"stage": stage}))
        for many in (0, 1, 3):
            self.assertEqual(fault(table.coordinates, [1] * many), (WrongWidth, {"have": many, "need": 2}))


class Corners(unittest.TestCase):
    def test_held_values(self):
        for _, table in some_tables(464, 100):
            corner = table.corner()
            self.assertEqual(shape(corner), ("tuple", ["Tall"] * table.node.problem.n))
            self.assertEqual({len(tall.parts) for tall in corner}, {2})
            for at in table.chosen:
                self.assertEqual(table.value(at), table.end(at))
            point = [number_of(tall) for tall in corner]
            for at in range(table.node.size):
                self.assertEqual(number_of(table.value(at)), total(table.node.row_of(at), point))

    def test_vector(self):
        for _, table in some_tables(465, 100):
            problem = table.node.problem
            point = [number_of(tall) for tall in table.corner()]
            vector = table.vector()
            pairs = zip(stage_rows(problem), stage_constants(problem))
            expected = [total(row, point) + plain(constant) for row, constant in pairs]
            self.assertEqual([number_of(tall) for tall in vector], expected)
            self.assertEqual(shape(vector), ("tuple", ["Tall"] * len(expected)))

    def test_constants(self):
        problem = Problem([Variable("x", 1, 3)], (), [Aim("min", [2], 5), Aim("max", [1], 7)])
        table = Table(Node(problem), [0])
        self.assertEqual(table.vector(), (Tall.plain(7), Tall.plain(-8), Tall.plain(1)))

    def test_missing_ends(self):
        problem = Problem([Variable("x"), Variable("y")], [Row("r", [1, -1], "<=", 1)], [Aim("max", [1, 0])])
        table = Table(Node(problem), [0, 1])
        self.assertEqual((table.side(0), table.side(1)), ("high", "low"))
        self.assertEqual(table.corner(), (Tall.far(1), Tall.plain(0)))
        self.assertEqual((table.value(2), table.outside()), (Tall.far(1), 2))
        table = Table(Node(problem), [1, 2])
        self.assertEqual(table.corner(), (Tall((1, 1)), Tall.far(1)))
        self.assertEqual(table.outside(), 0)
        self.assertEqual((table.helpers(0), table.best_helper(0)), ((1, 2), 1))


class Outside(unittest.TestCase):
    def test_against_great_numbers(self):
        found = set()
        for _, table in some_tables(466, 300):
            node = table.node
            point = [number_of(tall) for tall in table.corner()]
            values = [total(node.row_of(at), point) for at in range(node.size)]
            out = [at for at in range(node.size)
                   if not box_of(node, at)[0] <= values[at] <= box_of(node, at)[1]]
            self.assertEqual(table.outside(), out[0] if out else None)
            found.add(table.outside())
            for at in range(node.size):
                low, high = box_of(node, at)
                miss = -1 if values[at] < low else 1 if values[at] > high else 0
                self.check_helpers(table, at, miss)
        self.assertTrue(len(found) > 4)

    def check_helpers(self, table, at, miss):
        node, expected, costs = table.node, [], {}
        for held, t in zip(table.chosen, table.entry(at)):
            low, high = node.box_of(held)
            wanted = -miss if table.side(held) == "low" else miss
            if t * wanted > 0 and not (low is not None and low == high):
                expected.append(held)
                sign = 1 if table.side(held) == "low" else -1
                costs[held] = [plain(number) * sign / abs(plain(t)) for number in table.column(held)]
        self.assertEqual(table.helpers(at), tuple(expected))
        best = min(expected, key=lambda held: costs[held]) if expected else None
        self.assertEqual(table.best_helper(at), best)
        if best is not None:
            self.assertEqual(sum(cost == costs[best] for cost in costs.values()), 1)

    def test_both_sides(self):
        variables = [Variable("x", 0, 1), Variable("y", 0, 2), Variable("z", 4, 4)]
        for right, sense, helpers, best in (
            (9, ">=", (0, 1), 1), (8, ">=", (0, 1), 1), (3, "<=", (), None), (4, "<=", (), None), (4, ">=", (), None),
        ):
            problem = Problem(variables, [Row("r", [1, 3, 1], sense, right)], [Aim("min", [1, 2, 9])])
            table = Table(Node(problem), [0, 1, 2])
            self.assertEqual((table.helpers(3), table.best_helper(3)), (helpers, best))
            self.assertEqual(table.outside(), 3 if (sense, right) in (("<=", 3), (">=", 9), (">=", 8)) else None)
        problem = Problem(variables, [Row("r", [1, 3, 1], "<=", 2), Row("s", [-1, 1, 0], "<=", -2)],
                          [Aim("max", [1, 2, 9])])
        table = Table(Node(problem), [0, 1, 2])
        self.assertEqual((table.outside(), table.helpers(3), table.best_helper(3)), (3, (0, 1), 1))
        self.assertEqual((table.helpers(4), table.best_helper(4)), ((1,), 1))

    def test_ties_are_decided_by_later_stages(self):
        problem = Problem([Variable("x", 0, 9), Variable("y", 0, 9)], [Row("r", [1, 2], ">=", 2)],
                          [Aim("min", [1, 2])])
        self.assertEqual(Table(Node(problem), [0, 1]).best_helper(2), 1)
        problem = Problem([Variable("x", 0, 9, pull="up"), Variable("y", 0, 9)], [Row("r", [1, 2], ">=", 2)],
                          [Aim("min", [1, 2])])
        self.assertEqual(Table(Node(problem), [0, 1]).best_helper(2), 0)


class Exchanged(unittest.TestCase):
    def test_every_pair(self):
        dependent = 0
        for _, table in some_tables(467, 60):
            node, before = table.node, (table.chosen, table.corner(), table.vector(), table.outside())
            for out, into in itertools.product(table.chosen, range(node.size)):
                if into in table.chosen:
                    self.assertEqual(fault(table.exchanged, out, into), (IsHeld, {"at": into}))
                    continue
                chosen = tuple(sorted(set(table.chosen) - {out} | {into}))
                free = table.entry(into)[table.chosen.index(out)]
                self.assertEqual(bool(free), rank([node.row_of(at) for at in chosen]) == node.problem.n)
                if not free:
                    dependent += 1
                    self.assertEqual(fault(table.exchanged, out, into), (Dependent, {"at": into}))
                    continue
                other, fresh = table.exchanged(out, into), Table(node, chosen)
                self.assertIs(other.node, node)
                for told in ("chosen", "corner", "vector", "outside"):
                    ways = [getattr(way, told) for way in (other, fresh)]
                    self.assertEqual(*(way() if callable(way) else way for way in ways))
            self.assertEqual((table.chosen, table.corner(), table.vector(), table.outside()), before)
        self.assertGreater(dependent, 20)

    def test_refusals_in_their_order(self):
        problem = Problem(basic().variables, [Row("r", [1, 1], ">=", 2), Row("s", [2, 2], ">=", 1)])
        table = Table(Node(problem), (1, 2))
        for out in (-1, 0, 3, 4, 9):
            for into in (-1, 0, 1, 2, 3, 4):
                self.assertEqual(fault(table.exchanged, out, into), (NotHeld, {"at": out}))
        for into in (-1, 4, 5):
            self.assertEqual(fault(table.exchanged, 1, into), (NoItem, {"at": into}))
        for into in (1, 2):
            self.assertEqual(fault(table.exchanged, 1, into), (IsHeld, {"at": into}))
        self.assertEqual(fault(table.exchanged, 1, 3), (Dependent, {"at": 3}))
        self.assertEqual(table.exchanged(2, 3).chosen, (1, 3))


class Wide(unittest.TestCase):
    def test_sixteen_variables(self):
        chance = random.Random(468)
        variables = [Variable(f"x{at}", 0, 3) for at in range(16)]
        rows = [Row(f"r{at}", some_row(chance, 16), "<=", 5) for at in range(16)]
        node = Node(Problem(variables, rows, [Aim("max", some_row(chance, 16))]))
        table = Table(node, range(16))
        for out, into in ((0, 16), (3, 20), (5, 31), (16, 0)):
            if table.entry(into)[table.chosen.index(out)]:
                table = table.exchanged(out, into)
        for at in table.chosen:
            self.assertEqual(table.value(at), table.end(at))


if __name__ == "__main__":
    unittest.main()
