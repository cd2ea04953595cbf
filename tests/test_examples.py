"""The sessions of the document's examples."""

import unittest

from bestpapers.answers import Answer
from bestpapers.changes import with_right
from bestpapers.cheapest import cheapest_flow
from bestpapers.cuts import rounded_cut, split_cut
from bestpapers.desks import Desk
from bestpapers.dual import dual_run
from bestpapers.errors import BadNumber
from bestpapers.fracs import Frac
from bestpapers.judges import judge
from bestpapers.nodes import Node
from bestpapers.presolving import presolve
from bestpapers.problems import Problem
from bestpapers.rows import Aim, Row
from bestpapers.solving import solve
from bestpapers.tall import Tall
from bestpapers.variables import Variable
from bestpapers.webs import Web
from bestpapers.worths import worth
from tests.helpers import fault


class Examples(unittest.TestCase):
    def test_fractions(self):
        found = [str(Frac(-6, 8)), Frac(7, 2) // 2, str(Frac(-7, 2) % 2),
                 Frac(-7, 2).floor(), Frac(-7, 2).ceiling()]
        self.assertEqual(found, ["-3/4", 1, "1/2", -4, -3])

    def test_no_written_form(self):
        self.assertEqual(fault(Frac.read, "2/4"), (BadNumber, {"text": "2/4"}))

    def test_tall_numbers(self):
        found = [Tall((1, -5)) > Tall.plain(1000), (2 * Tall.far(-1)).sign()]
        self.assertEqual(found, [True, -1])

    def test_judge(self):
        v = Problem([Variable("x", 0, 1)], [Row("r", [1], ">=", 2)])
        found = [judge(v, Answer.empty(("empty", (1,)))), judge(v, Answer.empty(("empty", (0,))))]
        self.assertEqual(found, [True, False])

    def test_floors(self):
        p = Problem([Variable("x", 0, 3), Variable("y", 0, 3)], [Row("r", [1, 1], ">=", 2)], [Aim("min", [1, 1])])
        node = Node(p)
        found = [str(node.floor([1, 1], 0, [1])), node.floor([1, 1], 0, [-1]), str(node.floor([1, 1], 0, [0]))]
        self.assertEqual(found, ["2", None, "0"])

    def test_worths(self):
        p = Problem([Variable("x", 0, 3), Variable("y", 0, 3)], [Row("r", [1, 1], ">=", 2)], [Aim("min", [1, 1])])
        paper = ("floors", (((), (1,)),))
        self.assertEqual([str(worth(p, paper)), str(worth(with_right(p, "r", 3), paper))], ["2", "3"])

    def test_solving(self):
        p = Problem([Variable("x", 0, 3), Variable("y", 0, 3)], [Row("r", [1, 1], ">=", 2)], [Aim("min", [1, 1])])
        answer = solve(p)
        found = [answer.kind, [str(x) for x in answer.totals], [str(x) for x in answer.point]]
        self.assertEqual(found, ["told", ["2"], ["0", "2"]])

    def test_solving_with_whole_variables(self):
        answer = solve(self.halves())
        found = [answer.kind, [str(x) for x in answer.totals], [str(x) for x in answer.point]]
        self.assertEqual(found, ["told", ["1"], ["0", "1"]])

    def test_solving_without_end(self):
        u = Problem([Variable("x"), Variable("y")], [Row("r", [1, -1], "<=", 1)], [Aim("max", [1, 0])])
        answer = solve(u)
        found = [answer.kind, answer.at, answer.totals, [str(x) for x in answer.point]]
        self.assertEqual(found, ["endless", 0, (), ["0", "0"]])

    def test_dual_run(self):
        p = Problem([Variable("x", 0, 3), Variable("y", 0, 3)], [Row("r", [1, 1], ">=", 2)], [Aim("min", [1, 1])])
        self.assertEqual(dual_run(Node(p)).path, ((0, 1), (0, 2)))

    def halves(self):
        return Problem([Variable("x", 0, 3, whole=True), Variable("y", 0, 3, whole=True)],
                       [Row("r", [2, 2], "<=", 3)], [Aim("max", [1, 1])])

    def test_split_cut(self):
        coefficients, right, reason = split_cut(dual_run(Node(self.halves())).table, 1)
        found = [[str(x) for x in coefficients], str(right), reason[0], reason[1], reason[2]]
        self.assertEqual(found, [["0", "-2"], "-2", "split", 1, 1])

    def test_rounded_cut(self):
        coefficients, right, reason = rounded_cut(Node(self.halves()), [Frac(-1, 2)])
        self.assertEqual([[str(x) for x in coefficients], str(right), reason[0]], [["-1", "-1"], "-1", "rounded"])

    def test_presolving(self):
        w = Problem([Variable("x"), Variable("y", 2, 2)], [Row("a", [2, 0], "<=", 6), Row("b", [1, 1], "<=", 9)],
                    [Aim("min", [1, 0])])
        self.assertEqual(presolve(w).steps, (("single", "a", "x"), ("fixed", "y"), ("single", "b", "x")))

    def test_desks(self):
        found = Desk().run("var x 0 4 whole\nvar y 0 4\nrow r 2*x + 2*y <= 5\nmax 1*x + 1*y\nsolve\nundo\nsolve")
        self.assertEqual(found, ["ok", "ok", "ok", "ok", "told 5/2 at 0 5/2", "ok", "told at 0 0"])

    def test_webs(self):
        web = Web(3, [(0, 1, 0, 2, 1), (1, 2, 0, None, 1), (0, 2, 0, 5, 3)], [3, 0, -3])
        answer = cheapest_flow(web)
        found = [answer.kind, [str(x) for x in answer.totals], [str(x) for x in answer.point]]
        self.assertEqual(found, ["best", ["7"], ["2", "2", "1"]])


if __name__ == "__main__":
    unittest.main()
