"""Points 47 and 48: held sets, mended ones, and ways between them."""

import itertools
import math
import random
import unittest

from bestpapers.errors import NoItem
from bestpapers.heldsets import held_path, held_sets, repaired
from bestpapers.nodes import Node
from bestpapers.problems import Problem
from bestpapers.refusals import BadHeld, Dependent, TooMany
from bestpapers.rows import Row
from bestpapers.tables import Table
from tests.algebra import rank, some_mixed, some_row
from tests.helpers import fault, variables


def searched(node):
    """All held sets, found by ranks."""
    n = node.problem.n
    sets = itertools.combinations(range(node.size), n)
    return [chosen for chosen in sets if rank([node.row_of(at) for at in chosen]) == n]


def some_node(chance, derived=2):
    node = Node(some_mixed(chance, 3, 3))
    for _ in range(chance.randint(0, derived)):
        node = node.derived(some_row(chance, node.problem.n), chance.randint(-2, 2))
    return node


def wide(n, m, derived=0):
    """A node with n variables, m rows and derived rows, all of ones."""
    problem = Problem(variables(n), [Row(f"r{at}", [1] * n, ">=", at) for at in range(m)])
    node = Node(problem)
    for at in range(derived):
        node = node.derived([1] * n, at)
    return node


class HeldSets(unittest.TestCase):
    def test_against_ranks(self):
        chance = random.Random(47)
        for _ in range(120):
            node = some_node(chance)
            self.assertEqual(list(held_sets(node)), searched(node))

    def test_rows_of_zeros(self):
        node = Node(Problem(variables(2), [Row("r", [0, 0], "<=", 1), Row("s", [0, 2], "<=", 1)]))
        self.assertEqual(list(held_sets(node)), [(0, 1), (0, 3)])

    def test_too_many(self):
        for n, m, derived in ((2, 43, 0), (1, 0, 999), (2, 3, 40), (3, 16, 0), (4, 10, 0), (16, 16, 0)):
            rows = min(m, 16)
            node = wide(n, rows, derived + m - rows)
            many = math.comb(n + m + derived, n)
            if many > 1000:
                expected = (TooMany, {"many": many, "most": 1000})
                self.assertEqual(fault(lambda: list(held_sets(node))), expected)
            else:
                self.assertGreater(len(list(held_sets(node))), 0)

    def test_the_limit(self):
        node = wide(1, 16, 183)
        self.assertEqual(len(list(held_sets(node))), 200)
        node = wide(2, 16, 27)
        self.assertEqual(math.comb(node.size, 2), 990)
        self.assertEqual(len(list(held_sets(node))), 1 + 2 * 43)
        node = wide(2, 16, 28)
        self.assertEqual(fault(lambda: list(held_sets(node))), (TooMany, {"many": 1035, "most": 1000}))
        node = wide(3, 16)
        self.assertEqual(math.comb(19, 3), 969)
        self.assertEqual(len(list(held_sets(node))), 1 + 3 * 16)

    def test_at_the_latest_when_the_iteration_starts(self):
        node = wide(16, 16)
        with self.assertRaises(TooMany):
            next(iter(held_sets(node)))


class Repaired(unittest.TestCase):
    def reference(self, node, wanted):
        kept = []
        for at in list(wanted) + list(range(node.size)):
            if rank([node.row_of(k) for k in kept + [at]]) == len(kept) + 1:
                kept.append(at)
        return tuple(sorted(kept))

    def test_against_ranks(self):
        chance = random.Random(48)
        for _ in range(300):
            node = some_node(chance)
            wanted = [chance.randrange(node.size) for _ in range(chance.randint(0, 6))]
            expected = self.reference(node, wanted)
            self.assertEqual(repaired(node, wanted), expected)
            self.assertEqual(repaired(node, tuple(wanted)), expected)
            self.assertIsNone(fault(Table, node, expected))

    def test_the_first_items_win(self):
        node = Node(Problem(variables(2), [Row("r", [1, 1], "<=", 3), Row("s", [2, 2], ">=", 1)]))
        self.assertEqual(repaired(node, []), (0, 1))
        self.assertEqual(repaired(node, [3, 3, 2]), (0, 3))
        self.assertEqual(repaired(node, [2, 3, 1]), (1, 2))
        self.assertEqual(repaired(node, [1, 3, 0]), (1, 3))

    def test_no_item(self):
        node = Node(Problem(variables(2), [Row("r", [1, 1], "<=", 3)]))
        for wanted, at in (([3], 3), ([-1], -1), ([0, 1, 7, -1], 7), ([0, 1, 2, 0, -4], -4)):
            self.assertEqual(fault(repaired, node, wanted), (NoItem, {"at": at}))

    def test_the_argument_stays(self):
        wanted = [2, 2, 0]
        repaired(wide(2, 1), wanted)
        self.assertEqual(wanted, [2, 2, 0])


class HeldPath(unittest.TestCase):
    def reference(self, node, first, last):
        held, path = set(first), [tuple(sorted(first))]
        while held != set(last):
            into = min(set(last) - held)
            entry = Table(node, path[-1]).entry(into)
            out = min(at for at, number in zip(path[-1], entry) if number and at not in last)
            held = held - {out} | {into}
            path.append(tuple(sorted(held)))
        return path

    def test_against_the_words(self):
        chance = random.Random(49)
        lengths = set()
        for _ in range(150):
            node = some_node(chance)
            sets = searched(node)
            first, last = list(chance.choice(sets)), list(chance.choice(sets))
            chance.shuffle(first)
            chance.shuffle(last)
            path = held_path(node, first, last)
            self.assertEqual(path, self.reference(node, first, last))
            self.assertEqual(path[-1], tuple(sorted(last)))
            self.assertEqual(len(path), 1 + len(set(first) - set(last)))
            self.assertIsInstance(path, list)
            for chosen in path:
                self.assertIsInstance(chosen, tuple)
                self.assertIn(chosen, sets)
            lengths.add(len(path))
        self.assertTrue({1, 2, 3} <= lengths)

    def test_errors(self):
        node = Node(Problem(variables(2), [Row("r", [1, 1], "<=", 3), Row("s", [2, 2], "<=", 9)]))
        for wrong, error in (
            ([0], (BadHeld, {"chosen": (0,)})), ([0, 0], (BadHeld, {"chosen": (0, 0)})),
            ([4, 1], (BadHeld, {"chosen": (4, 1)})), ([3, 2], (Dependent, {"at": 3})),
        ):
            self.assertEqual(fault(held_path, node, wrong, [0, 1]), error)
            self.assertEqual(fault(held_path, node, [1, 0], wrong), error)
            self.assertEqual(fault(held_path, node, wrong, [7]), error)


if __name__ == "__main__":
    unittest.main()
