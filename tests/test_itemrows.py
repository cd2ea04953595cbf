"""Point 17: the items of a problem."""

import unittest

from bestpapers.errors import NoItem, WrongWidth
from bestpapers.fracs import Frac
from bestpapers.itemrows import item_box, item_name, item_row, item_value
from bestpapers.problems import Problem
from tests.helpers import HUGE, fault, sample, shape, texts, variables

OUTSIDE = (-1, -6, -HUGE, 6, 7, HUGE)


class Items(unittest.TestCase):
    def test_rows(self):
        rows = [item_row(sample(), at) for at in range(6)]
        self.assertEqual([texts(row) for row in rows], [
            ["1", "0", "0"], ["0", "1", "0"], ["0", "0", "1"],
            ["1", "2", "0"], ["0", "1/3", "-1"], ["2", "0", "1"],
        ])
        for row in rows:
            self.assertEqual(shape(row), ("tuple", ["Frac"] * 3))

    def test_boxes(self):
        boxes = [item_box(sample(), at) for at in range(6)]
        self.assertEqual(boxes, [
            (0, 5), (Frac(-1, 2), None), (None, 7), (None, 6), (-4, None),
            (Frac(5, 2), Frac(5, 2)),
        ])
        self.assertEqual(shape(boxes[0]), ("tuple", ["Frac", "Frac"]))
        self.assertEqual(shape(boxes[1]), ("tuple", ["Frac", "NoneType"]))
        self.assertEqual(shape(boxes[2]), ("tuple", ["NoneType", "Frac"]))
        self.assertEqual(shape(boxes[3]), ("tuple", ["NoneType", "Frac"]))
        self.assertEqual(shape(boxes[4]), ("tuple", ["Frac", "NoneType"]))
        self.assertEqual(shape(boxes[5]), ("tuple", ["Frac", "Frac"]))

    def test_names(self):
        names = [item_name(sample(), at) for at in range(6)]
        self.assertEqual(names, ["x", "y", "z", "a", "b", "c"])

    def test_values(self):
        for point in ([1, 2, 3], (Frac(1), Frac(2), 3)):
            values = [item_value(sample(), at, point) for at in range(6)]
            self.assertEqual(texts(values), ["1", "2", "3", "5", "-7/3", "5"])

    def test_point_stays(self):
        point = [1, 2, Frac(3)]
        item_value(sample(), 0, point)
        self.assertEqual(shape(point), ("list", ["int", "int", "Frac"]))

    def test_without_rows(self):
        problem = Problem(variables(2))
        self.assertEqual(texts(item_row(problem, 1)), ["0", "1"])
        self.assertEqual(fault(item_row, problem, 2), (NoItem, {"at": 2}))


class Errors(unittest.TestCase):
    def test_no_item(self):
        for at in OUTSIDE:
            for call in (item_row, item_box, item_name):
                self.assertEqual(fault(call, sample(), at), (NoItem, {"at": at}))
            self.assertEqual(fault(item_value, sample(), at, [1, 2, 3]), (NoItem, {"at": at}))

    def test_wrong_width(self):
        for at in range(6):
            for point in ([], [1, 2], (1, 2, 3, 4)):
                expected = (WrongWidth, {"have": len(point), "need": 3})
                self.assertEqual(fault(item_value, sample(), at, point), expected)

    def test_no_item_is_first(self):
        for at in OUTSIDE:
            self.assertEqual(fault(item_value, sample(), at, [1]), (NoItem, {"at": at}))


if __name__ == "__main__":
    unittest.main()
