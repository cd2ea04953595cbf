"""The sessions of the document's examples, as far as their modules are written."""

import unittest

from bestpapers.answers import Answer
from bestpapers.changes import with_right
from bestpapers.errors import BadNumber
from bestpapers.fracs import Frac
from bestpapers.judges import judge
from bestpapers.nodes import Node
from bestpapers.problems import Problem
from bestpapers.rows import Aim, Row
from bestpapers.tall import Tall
from bestpapers.variables import Variable
from bestpapers.worths import worth
from tests.helpers import fault


class Examples(unittest.TestCase):
    def test_fractions(self):
        found = [str(Frac(-6, 8)), Frac(7, 2) // 2, str(Frac(-7, 2) % 2),
                 Frac(-7, 2).floor(), Frac(-7, 2).ceiling()]
        self.assertEqual(found, ["-3/4", 1, "1/2", -4, -3])

    def test_no_written_form(self):
        self.assertEqual(fault(Frac.read, "2/4"), (BadNumber, {"text": "2/4"}))

    def test_tall_numbers(self):
        found = [Tall((1, -5)) > Tall.plain(1000), (2 * Tall.far(-1)).sign()]
        self.assertEqual(found, [True, -1])

    def test_judge(self):
        v = Problem([Variable("x", 0, 1)], [Row("r", [1], ">=", 2)])
        found = [judge(v, Answer.empty(("empty", (1,)))), judge(v, Answer.empty(("empty", (0,))))]
        self.assertEqual(found, [True, False])

    def test_floors(self):
        p = Problem([Variable("x", 0, 3), Variable("y", 0, 3)], [Row("r", [1, 1], ">=", 2)], [Aim("min", [1, 1])])
        node = Node(p)
        found = [str(node.floor([1, 1], 0, [1])), node.floor([1, 1], 0, [-1]), str(node.floor([1, 1], 0, [0]))]
        self.assertEqual(found, ["2", None, "0"])

    def test_worths(self):
        p = Problem([Variable("x", 0, 3), Variable("y", 0, 3)], [Row("r", [1, 1], ">=", 2)], [Aim("min", [1, 1])])
        paper = ("floors", (((), (1,)),))
        self.assertEqual([str(worth(p, paper)), str(worth(with_right(p, "r", 3), paper))], ["2", "3"])


if __name__ == "__main__":
    unittest.main()
