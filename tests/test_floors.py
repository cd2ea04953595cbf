"""Point 26: the floors of prices in nodes."""

import itertools
import random
import unittest

from bestpapers.errors import WrongWidth
from bestpapers.fracs import Frac
from bestpapers.nodes import Node
from bestpapers.problems import Problem
from bestpapers.rows import Row
from bestpapers.variables import Variable
from tests.helpers import HUGE, fault, shape, variables


def one_row(sense):
    """x from -3 to 7, with 2*x and a right side of 5."""
    return Node(Problem([Variable("x", -3, 7)], [Row("r", [2], sense, 5)]))


def ends(low, high):
    return Node(Problem([Variable("x", low, high)]))


class Floors(unittest.TestCase):
    def check(self, found, expected):
        if expected is None:
            self.assertIsNone(found)
        else:
            self.assertEqual((shape(found), found), ("Frac", expected))

    def test_without_rows(self):
        node = Node(Problem([Variable("x", -3, 7), Variable("y", Frac(1, 2), 2)]))
        self.check(node.floor([1, 1], 0, []), Frac(-5, 2))
        self.check(node.floor((1, -1), Frac(1, 3), ()), -3 - 2 + Frac(1, 3))
        self.check(node.floor([-2, 0], 10, ()), -4)
        self.check(node.floor([0, 0], 4, []), 4)
        self.check(node.floor([0, 0], 0, []), 0)

    def test_signs_of_prices(self):
        # The rest is 1 - 2 * price; it stands at -3 if above zero, at 7 if below.
        for sense, price, expected in (
            ("<=", -1, -5 + 3 * -3), ("<=", 0, -3), ("<=", 1, None), ("<=", Frac(1, HUGE), None),
            (">=", 1, 5 - 7), (">=", 0, -3), (">=", -1, None), (">=", -Frac(1, HUGE), None),
            ("=", 1, 5 - 7), ("=", 0, -3), ("=", -1, -5 + 3 * -3),
            (">=", Frac(1, 2), Frac(5, 2)), (">=", Frac(1, 4), Frac(5, 4) - Frac(3, 2)),
        ):
            self.check(one_row(sense).floor([1], 0, [price]), expected)

    def test_derived_rows(self):
        node = one_row("<=").derived([1], 2).derived([-1], -4)
        self.check(node.floor([1], 0, [0, 1, 0]), 2)
        self.check(node.floor([1], 0, [0, 0, 0]), -3)
        self.check(node.floor([-1], Frac(1, 2), (0, 0, 1)), Frac(-7, 2))
        self.check(node.floor([1], 0, [0, -1, 0]), None)
        self.check(node.floor([1], 0, [0, 0, -Frac(1, HUGE)]), None)
        self.check(node.floor([1], 0, [1, 1, 0]), None)
        self.check(node.floor([1], 0, [Frac(-1, 2), 2, 0]), Frac(-5, 2) + 4)
        self.check(node.floor([0], 0, [0, 1, 1]), -2)

    def test_narrower_boxes(self):
        node = Node(Problem([Variable("x", 0, 9, whole=True)])).half(0, 6, "low").half(0, 1, "high")
        self.check(node.floor([1], 0, []), 2)
        self.check(node.floor([-1], 0, []), -6)

    def test_missing_ends(self):
        self.check(ends(2, None).floor([3], 1, []), 7)
        self.check(ends(2, None).floor([-3], 1, []), None)
        self.check(ends(2, None).floor([0], 1, []), 1)
        self.check(ends(None, 2).floor([3], 1, []), None)
        self.check(ends(None, 2).floor([-3], 1, []), -5)
        self.check(ends(None, 2).floor([0], 1, []), 1)
        self.check(ends(2, None).floor([-Frac(1, HUGE)], 0, []), None)

    def test_prices_make_up_for_missing_ends(self):
        node = Node(Problem([Variable("x"), Variable("y", None, 0)], [Row("r", [1, -1], "<=", 4)]))
        self.check(node.floor([-1, 1], 0, [0]), None)
        self.check(node.floor([-1, 1], 0, [-1]), -4)
        self.check(node.floor([-1, 1], 0, [Frac(-1, 2)]), None)
        self.check(node.floor([-1, 1], 0, [-2]), -8)

    def test_an_end_of_zero_is_an_end(self):
        self.check(ends(0, None).floor([1], 0, []), 0)
        self.check(ends(None, 0).floor([-1], 0, []), 0)

    def test_wrong_sign_beside_good_ones(self):
        node = Node(Problem(variables(1, high=1), [Row("a", [1], ">=", 0), Row("b", [1], "<=", 1),
                                                   Row("c", [1], "=", 1)]))
        self.check(node.floor([1], 0, [1, 0, 0]), 0)
        self.check(node.floor([1], 0, [1, 1, 0]), None)
        self.check(node.floor([1], 0, [-1, 0, 0]), None)
        self.check(node.floor([1], 0, [0, 0, -1]), -1)

    def test_arguments_stay(self):
        row, prices = [1, Frac(1, 2)], [1]
        Node(Problem(variables(2, high=3), [Row("r", [1, 1], ">=", 2)])).floor(row, 0, prices)
        self.assertEqual((row, prices), ([1, Frac(1, 2)], [1]))
        self.assertEqual(shape(row), ("list", ["int", "Frac"]))

    def test_never_above_the_sum(self):
        chance = random.Random(26)
        wide = Problem(
            [Variable("x", -2, 2, whole=True), Variable("y", 0, 3), Variable("z", None, 1)],
            [Row("a", [1, 2, 1], "<=", 4), Row("b", [1, -1, 2], ">=", -7), Row("c", [1, 1, 1], "=", 1)])
        node = Node(wide).half(0, 0, "high").derived([1, 0, -1], -1)
        points = [point for point in itertools.product(range(-2, 3), range(4), range(-5, 2))
                  if node.admits(point)]
        self.assertGreater(len(points), 3)
        seen = 0
        for _ in range(400):
            row = [chance.randint(-3, 3) for _ in range(3)]
            prices = [chance.randint(-2, 1), chance.randint(-1, 2), chance.randint(-2, 2), chance.randint(-1, 2)]
            floor = node.floor(row, 2, prices)
            if floor is not None:
                seen += 1
                for point in points:
                    self.assertGreaterEqual(sum(a * b for a, b in zip(row, point)) + 2, floor)
        self.assertGreater(seen, 20)


class Errors(unittest.TestCase):
    def setUp(self):
        problem = Problem(variables(2, high=3), [Row("r", [1, 1], ">=", 2)])
        self.node = Node(problem).derived([1, 0], 0)

    def test_row(self):
        for row in ([], [1], (1, 2, 3)):
            expected = (WrongWidth, {"have": len(row), "need": 2})
            self.assertEqual(fault(self.node.floor, row, 0, [0, 0]), expected)

    def test_prices(self):
        for prices in ([], [1], (1, 1, 1)):
            expected = (WrongWidth, {"have": len(prices), "need": 2})
            self.assertEqual(fault(self.node.floor, [1, 1], 0, prices), expected)

    def test_row_is_first(self):
        for prices in ([], [1], (1, 1, 1)):
            expected = (WrongWidth, {"have": 3, "need": 2})
            self.assertEqual(fault(self.node.floor, [1, 1, 1], 0, prices), expected)

    def test_even_where_there_is_no_floor(self):
        node = ends(None, 2)
        self.assertEqual(fault(node.floor, [1], 0, [1]), (WrongWidth, {"have": 1, "need": 0}))


if __name__ == "__main__":
    unittest.main()
