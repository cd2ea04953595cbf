"""Points 24 and 25: nodes, their halves, derived rows and items."""

import unittest

from bestpapers.errors import NoItem, NoSplit, WrongWidth
from bestpapers.fracs import Frac
from bestpapers.nodes import Node
from bestpapers.problems import Problem
from bestpapers.rows import Aim, Row
from bestpapers.variables import Variable
from tests.helpers import HUGE, fault, sample, shape, texts, variables


def wholes():
    """Variables x from -2 to 5 and z from 0 to 3, both whole, and y, which is not."""
    return Problem(
        [Variable("x", -2, 5, whole=True), Variable("y", None, 4), Variable("z", 0, 3, whole=True)],
        [Row("a", [1, 1, 1], "<=", 6), Row("b", [1, 0, -1], "=", 1)],
    )


class Beginnings(unittest.TestCase):
    def test_attributes(self):
        problem = sample()
        node = Node(problem)
        self.assertIs(node.problem, problem)
        self.assertEqual(node.boxes, ((0, 5), (Frac(-1, 2), None), (None, 7)))
        self.assertEqual(node.extra, ())
        self.assertEqual(node.size, 6)
        kinds = [("tuple", ["Frac", "Frac"]), ("tuple", ["Frac", "NoneType"]),
                 ("tuple", ["NoneType", "Frac"])]
        self.assertEqual(shape(node.boxes), ("tuple", kinds))
        self.assertEqual(shape(node.size), "int")

    def test_without_rows(self):
        node = Node(Problem(variables(2)))
        self.assertEqual((node.size, node.extra), (2, ()))


class Halves(unittest.TestCase):
    def test_both_sides(self):
        node = Node(wholes())
        low, high = node.half(0, 1, "low"), node.half(0, 1, "high")
        self.assertEqual(low.boxes, ((-2, 1), (None, 4), (0, 3)))
        self.assertEqual(high.boxes, ((2, 5), (None, 4), (0, 3)))
        for half in (low, high):
            self.assertEqual(shape(half.boxes[0]), ("tuple", ["Frac", "Frac"]))
            self.assertIs(half.problem, node.problem)
            self.assertEqual((half.extra, half.size), ((), 5))
        self.assertEqual(node.boxes, ((-2, 5), (None, 4), (0, 3)))

    def test_last_variable(self):
        low = Node(wholes()).half(2, 0, "low")
        self.assertEqual(low.boxes, ((-2, 5), (None, 4), (0, 0)))
        self.assertEqual(Node(wholes()).half(2, 2, "high").boxes, ((-2, 5), (None, 4), (3, 3)))

    def test_one_after_another(self):
        node = Node(wholes())
        first = node.half(0, 1, "low")
        second = first.half(0, -1, "high")
        third = second.half(2, 1, "low").half(0, 0, "low")
        self.assertEqual(second.boxes[0], (0, 1))
        self.assertEqual(third.boxes, ((0, 0), (None, 4), (0, 1)))
        self.assertEqual(first.boxes[0], (-2, 1))
        self.assertEqual(first.half(0, 0, "high").boxes[0], (1, 1))
        self.assertEqual(node.half(0, 4, "high").boxes[0], (5, 5))

    def test_edges(self):
        node = Node(wholes())
        self.assertEqual(node.half(0, -2, "low").boxes[0], (-2, -2))
        self.assertEqual(node.half(0, -2, "high").boxes[0], (-1, 5))
        self.assertEqual(node.half(0, 4, "low").boxes[0], (-2, 4))
        self.assertEqual(node.half(0, 4, "high").boxes[0], (5, 5))
        for k in (-3, 5, 6, HUGE, -HUGE):
            for side in ("low", "high"):
                self.assertEqual(fault(node.half, 0, k, side), (NoSplit, {"variable": 0, "k": k}))

    def test_edges_of_a_half(self):
        half = Node(wholes()).half(0, 1, "low").half(0, -2, "high")
        self.assertEqual(half.boxes[0], (-1, 1))
        for k in (-2, 1, 2):
            self.assertEqual(fault(half.half, 0, k, "low"), (NoSplit, {"variable": 0, "k": k}))
        self.assertEqual(half.half(0, 0, "low").boxes[0], (-1, 0))

    def test_fixed_variables(self):
        node = Node(Problem([Variable("x", 2, 2, whole=True)]))
        for k in (1, 2, 3):
            self.assertEqual(fault(node.half, 0, k, "high"), (NoSplit, {"variable": 0, "k": k}))

    def test_no_whole_variable(self):
        node = Node(wholes())
        for variable in (1, -1, -2, -3, 3, 4, 5, HUGE, -HUGE):
            expected = (NoSplit, {"variable": variable, "k": 1})
            self.assertEqual(fault(node.half, variable, 1, "low"), expected)
        closed = Node(Problem([Variable("x", 0, 5)]))
        self.assertEqual(fault(closed.half, 0, 1, "low"), (NoSplit, {"variable": 0, "k": 1}))


class Derived(unittest.TestCase):
    def test_rows(self):
        node = Node(wholes())
        first = node.derived([1, Frac(1, 2), 0], 3)
        second = first.derived((0, 0, 1), Frac(5, 2))
        self.assertEqual(first.extra, (((1, Frac(1, 2), 0), 3),))
        self.assertEqual(second.extra, (((1, Frac(1, 2), 0), 3), ((0, 0, 1), Frac(5, 2))))
        row = ("tuple", [("tuple", ["Frac"] * 3), "Frac"])
        self.assertEqual(shape(second.extra), ("tuple", [row, row]))
        self.assertEqual([node.size, first.size, second.size], [5, 6, 7])
        self.assertIs(second.problem, node.problem)
        self.assertEqual(second.boxes, node.boxes)
        self.assertEqual(node.extra, ())

    def test_halves_keep_derived_rows(self):
        node = Node(wholes()).derived([1, 0, 0], 1).half(0, 2, "high")
        self.assertEqual((node.size, node.extra), (6, (((1, 0, 0), 1),)))
        below = node.derived([0, 1, 0], 0)
        self.assertEqual(below.boxes[0], (3, 5))
        self.assertEqual(len(below.extra), 2)

    def test_a_list_that_changes_later(self):
        coefficients = [1, 2, 3]
        node = Node(wholes()).derived(coefficients, 4)
        coefficients[0] = 9
        coefficients.pop()
        self.assertEqual(node.extra, (((1, 2, 3), 4),))
        self.assertEqual(node.row_of(5), (1, 2, 3))

    def test_many_rows(self):
        node = Node(wholes())
        for right in range(200):
            node = node.derived([1, 0, 0], -right)
        self.assertEqual(node.size, 205)
        self.assertEqual(node.box_of(204), (-199, None))

    def test_wrong_width(self):
        node = Node(wholes()).derived([1, 1, 1], 0)
        for row in ([], [1, 2], (1, 2, 3, 4)):
            expected = (WrongWidth, {"have": len(row), "need": 3})
            self.assertEqual(fault(node.derived, row, 0), expected)


class Items(unittest.TestCase):
    def setUp(self):
        self.node = Node(sample()).half(0, 1, "high").derived([3, 2, 1], Frac(7, 2)).derived([0, 1, 0], 2)

    def test_rows(self):
        rows = [self.node.row_of(at) for at in range(8)]
        self.assertEqual([texts(row) for row in rows], [
            ["1", "0", "0"], ["0", "1", "0"], ["0", "0", "1"],
            ["1", "2", "0"], ["0", "1/3", "-1"], ["2", "0", "1"],
            ["3", "2", "1"], ["0", "1", "0"],
        ])
        for row in rows:
            self.assertEqual(shape(row), ("tuple", ["Frac"] * 3))

    def test_boxes(self):
        boxes = [self.node.box_of(at) for at in range(8)]
        self.assertEqual(boxes, [
            (2, 5), (Frac(-1, 2), None), (None, 7), (None, 6), (-4, None),
            (Frac(5, 2), Frac(5, 2)), (Frac(7, 2), None), (2, None),
        ])
        for at in (6, 7):
            self.assertEqual(shape(boxes[at]), ("tuple", ["Frac", "NoneType"]))

    def test_size(self):
        self.assertEqual(self.node.size, 8)

    def test_outside(self):
        for at in (-1, -8, -9, 8, 9, HUGE, -HUGE):
            for call in (self.node.row_of, self.node.box_of):
                self.assertEqual(fault(call, at), (NoItem, {"at": at}))
        node = Node(sample())
        for call in (node.row_of, node.box_of):
            self.assertIsNone(fault(call, 5))
            self.assertEqual(fault(call, 6), (NoItem, {"at": 6}))


class Admits(unittest.TestCase):
    def setUp(self):
        self.problem = Problem([Variable("x", 0, 5, whole=True), Variable("y", 0, 5)],
                               [Row("r", [1, 1], "<=", 8)], [Aim("min", [1, 1])])
        self.node = Node(self.problem).half(0, 1, "high").derived([1, 2], 5)

    def check(self, point, expected):
        self.assertIs(self.node.admits(point), expected)
        self.assertIs(self.node.admits([Frac(1) * number for number in point]), expected)

    def test_admitted(self):
        for point in ([2, Frac(3, 2)], (5, 3), (2, 5), (5, 0)):
            self.check(point, True)

    def test_outside_the_narrower_box(self):
        for point in ([1, 5], [0, 5]):
            self.assertIs(Node(self.problem).admits(point), True)
            self.check(point, False)
        low = Node(self.problem).half(0, 1, "low")
        self.assertIs(low.admits([1, 0]), True)
        self.assertIs(low.admits([2, 0]), False)

    def test_a_derived_row_alone(self):
        self.check([2, Frac(3, 2) - Frac(1, HUGE)], False)
        self.check([2, 0], False)
        two = self.node.derived([0, -1], -2)
        self.assertIs(two.admits([3, 2]), True)
        self.assertIs(two.admits([3, 3]), False)
        self.assertIs(two.admits([2, 1]), False)

    def test_not_feasible_for_the_problem(self):
        self.check([Frac(5, 2), 5], False)
        self.check([4, 5], False)
        self.check([2, 6], False)
        self.check([6, 2], False)

    def test_wrong_width(self):
        for point in ([], [1], (1, 2, 3)):
            expected = (WrongWidth, {"have": len(point), "need": 2})
            self.assertEqual(fault(self.node.admits, point), expected)

    def test_point_stays(self):
        point = [2, Frac(3, 2)]
        self.node.admits(point)
        self.assertEqual(shape(point), ("list", ["int", "Frac"]))


if __name__ == "__main__":
    unittest.main()
