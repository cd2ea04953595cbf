"""The problems of points 80, 82, 84, 85 and 86."""

import random
import unittest

from bestpapers.errors import BadCount
from bestpapers.nodes import Node
from bestpapers.refusals import BadTable, NoPlace, SamePlace
from bestpapers.solving import solve
from bestpapers.tables import Table
from bestpapers.webproblems import flow_problem, pairing_problem, road_problem, transport_problem, web_problem
from bestpapers.webs import Web
from tests.helpers import HUGE, fault, picture
from tests.some_webs import some_web
from tests.test_heldsets import searched


def sample():
    """Two parallel edges from 0 to 1; edge 2 has no bound."""
    return Web(3, [(0, 1, 0, 2, 1), (0, 1, 1, 5, -3), (2, 1, 3, None, 0), (1, 0, 2, 2, 7)], [4, -9, 5])


def loose(name):
    return (name, 0, None, False, "down")


class WebProblems(unittest.TestCase):
    def test_sample(self):
        self.assertEqual(picture(web_problem(sample())), (
            [("e0", 0, 2, False, "down"), ("e1", 1, 5, False, "down"), ("e2", 3, None, False, "down"), ("e3", 2, 2, False, "down")],
            [("v0", (1, 1, 0, -1), "=", 4), ("v1", (-1, -1, -1, 1), "=", -9), ("v2", (0, 0, 1, 0), "=", 5)],
            [("min", (1, -3, 0, 7), 0)],
        ))

    def test_little_and_great(self):
        little = web_problem(Web(2, [(1, 0, 0, None, 0)], [0, 0]))
        self.assertEqual(picture(little), ([loose("e0")], [("v0", (-1,), "=", 0), ("v1", (1,), "=", 0)], [("min", (0,), 0)]))
        edges = [(at % 8, (at + 1 + at // 8) % 8, 0, at, at) for at in range(16)]
        great = web_problem(Web(8, edges, [0] * 8))
        self.assertEqual((great.n, great.m), (16, 8))
        for at, (tail, head, low, high, cost) in enumerate(edges):
            self.assertEqual(picture(great)[0][at], (f"e{at}", low, high, False, "down"))
            column = [row.coefficients[at] for row in great]
            self.assertEqual(column, [(place == tail) - (place == head) for place in range(8)])

    def test_corners_are_whole(self):
        chance = random.Random(80)
        found = 0
        for _ in range(60):
            web = some_web(chance, places=chance.randint(2, 4), edges=chance.randint(1, 5))
            node = Node(web_problem(web))
            for chosen in searched(node)[:40]:
                table = Table(node, chosen)
                if not any(table.end(at).parts[0] for at in chosen):
                    found += 1
                    self.assertTrue(all(tall.parts[0] == 0 and tall.parts[1].is_whole for tall in table.corner()))
            answer = solve(node.problem)
            self.assertTrue(answer.point is None or all(number.is_whole for number in answer.point))
        self.assertGreater(found, 300)


class FlowProblems(unittest.TestCase):
    def test_sample(self):
        self.assertEqual(picture(flow_problem(sample(), 2, 0)), (
            [("e0", 0, 2, False, "down"), ("e1", 1, 5, False, "down"), ("e2", 3, None, False, "down"), ("e3", 2, 2, False, "down"), loose("a")],
            [("v0", (1, 1, 0, -1, 1), "=", 0), ("v1", (-1, -1, -1, 1, 0), "=", 0), ("v2", (0, 0, 1, 0, -1), "=", 0)],
            [("max", (0, 0, 0, 0, 1), 0)],
        ))

    def test_supplies_and_costs_have_no_effect(self):
        other = Web(3, [edge[:4] + (5,) for edge in sample().edges], [1, 0, -1])
        for source, sink in ((0, 1), (1, 0), (2, 1)):
            self.assertEqual(picture(flow_problem(other, source, sink)), picture(flow_problem(sample(), source, sink)))

    def test_errors(self):
        wide = Web(3, [(0, 1, 0, 1, 0)] * 16, [0, 0, 0])
        for web in (sample(), wide):
            for place in (-1, 3, HUGE):
                for other in (-1, 0, 3):
                    self.assertEqual(fault(flow_problem, web, place, other), (NoPlace, {"place": place}))
                self.assertEqual(fault(flow_problem, web, 2, place), (NoPlace, {"place": place}))
            for place in range(3):
                self.assertEqual(fault(flow_problem, web, place, place), (SamePlace, {"place": place}))
        self.assertEqual(fault(flow_problem, wide, 0, 1), (BadCount, {"what": "variables", "many": 17}))
        self.assertIsNone(fault(flow_problem, Web(2, [(0, 1, 0, 1, 0)] * 15, [0, 0]), 0, 1))


class RoadProblems(unittest.TestCase):
    def test_sample(self):
        self.assertEqual(picture(road_problem(sample(), 2, 0)), (
            [loose("e0"), loose("e1"), loose("e2"), loose("e3")],
            [("v0", (1, 1, 0, -1), "=", -1), ("v1", (-1, -1, -1, 1), "=", 0), ("v2", (0, 0, 1, 0), "=", 1)],
            [("min", (1, -3, 0, 7), 0)],
        ))

    def test_errors(self):
        for place in (-1, 3, HUGE):
            for other in (-1, 0, 3):
                self.assertEqual(fault(road_problem, sample(), place, other), (NoPlace, {"place": place}))
            self.assertEqual(fault(road_problem, sample(), 2, place), (NoPlace, {"place": place}))
        for place in range(3):
            self.assertEqual(fault(road_problem, sample(), place, place), (SamePlace, {"place": place}))
        self.assertEqual(road_problem(Web(2, [(0, 1, 0, 1, 0)] * 16, [0, 0]), 0, 1).n, 16)


class PairingProblems(unittest.TestCase):
    def test_sample(self):
        for costs in ([[3, None], [-1000, 1000]], ((3, None), [-1000, 1000])):
            self.assertEqual(picture(pairing_problem(costs)), (
                [loose("p00"), loose("p10"), loose("p11")],
                [("r0", (1, 0, 0), "=", 1), ("r1", (0, 1, 1), "=", 1), ("c0", (1, 1, 0), "=", 1), ("c1", (0, 0, 1), "=", 1)],
                [("min", (3, -1000, 1000), 0)],
            ))

    def test_little_and_great(self):
        self.assertEqual(picture(pairing_problem([[-5]])), ([loose("p00")], [("r0", (1,), "=", 1), ("c0", (1,), "=", 1)], [("min", (-5,), 0)]))
        great = pairing_problem([[1] * 4] * 4)
        self.assertEqual((great.n, great.m, [row.name for row in great]), (16, 8, ["r0", "r1", "r2", "r3", "c0", "c1", "c2", "c3"]))
        self.assertEqual(great["c2"].coefficients, (0, 0, 1, 0) * 4)
        self.assertEqual(great["r1"].coefficients, (0,) * 4 + (1,) * 4 + (0,) * 8)

    def test_bad_tables(self):
        for costs in ([], (), [[1] * 5] * 5, [[1, 2]], [[1], [2]], [[1, 2], [3]], [[1, 2], [3, 4, 5]], [[1, 2], []], [[]], [[1001]],
                      [[0, 0], [0, -1001]], [[None, None], [None, HUGE]], [[None] * 5] * 5, [[None, None], [None]]):
            self.assertEqual(fault(pairing_problem, costs), (BadTable, {}))

    def test_all_barred(self):
        for many in range(1, 5):
            self.assertEqual(fault(pairing_problem, [[None] * many] * many), (BadCount, {"what": "variables", "many": 0}))


class TransportProblems(unittest.TestCase):
    def test_sample(self):
        for kind in (list, tuple):
            problem = transport_problem(kind([5, 0]), kind([1, 2, 1000]), kind([kind([1, None, -3]), kind([None, 0, 4])]))
            self.assertEqual(picture(problem), (
                [loose("t00"), loose("t02"), loose("t11"), loose("t12")],
                [("s0", (1, 1, 0, 0), "<=", 5), ("s1", (0, 0, 1, 1), "<=", 0), ("d0", (1, 0, 0, 0), ">=", 1), ("d1", (0, 0, 1, 0), ">=", 2),
                 ("d2", (0, 1, 0, 1), ">=", 1000)],
                [("min", (1, -3, 0, 4), 0)],
            ))

    def test_great(self):
        problem = transport_problem([1000] * 4, [0] * 4, [[-1000] * 4] * 4)
        self.assertEqual((problem.n, [row.name for row in problem]), (16, ["s0", "s1", "s2", "s3", "d0", "d1", "d2", "d3"]))

    def test_counts(self):
        for many in (0, 5, 6):
            for demands in ([1], [], [1] * 5, [-1]):
                self.assertEqual(fault(transport_problem, [9999] * many, demands, []), (BadCount, {"what": "supplies", "many": many}))
            self.assertEqual(fault(transport_problem, [-1], [9999] * many, []), (BadCount, {"what": "demands", "many": many}))

    def test_bad_tables(self):
        good = [[1, 2], [3, 4]]
        for supplies, demands, costs in (
            ([-1, 1], [1, 1], good), ([1, 1001], [1, 1], good), ([1, 1], [-1, 1], good), ([1, 1], [1, 1001], good), ([1, 1], [1, HUGE], good),
            ([1, 1], [1, 1], good[:1]), ([1, 1], [1, 1], good + [[5, 6]]), ([1, 1], [1, 1], []), ([1, 1], [1, 1], [[1, 2], [3]]),
            ([1, 1], [1, 1], [[1, 2, 3], [3, 4]]), ([1, 1], [1, 1], [[1, 2], [3, 1001]]), ([1, 1], [1, 1], [[-1001, 2], [3, 1]]),
            ([1], [1], [[None, None]]), ([-1], [1], [[None]]),
        ):
            self.assertEqual(fault(transport_problem, supplies, demands, costs), (BadTable, {}))

    def test_all_barred(self):
        self.assertEqual(fault(transport_problem, [1, 1], [1], [[None], [None]]), (BadCount, {"what": "variables", "many": 0}))
        self.assertEqual(fault(transport_problem, [0] * 4, [0] * 4, [[None] * 4] * 4), (BadCount, {"what": "variables", "many": 0}))


if __name__ == "__main__":
    unittest.main()
