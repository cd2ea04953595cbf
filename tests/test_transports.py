"""Point 86: the cheapest transports."""

import random
import unittest

from bestpapers.errors import BadCount
from bestpapers.refusals import BadTable
from bestpapers.transports import cheapest_transport
from bestpapers.webproblems import transport_problem
from tests.helpers import HUGE, fault
from tests.some_webs import WebAnswers


class Transports(unittest.TestCase, WebAnswers):
    def check(self, supplies, demands, costs):
        before = (list(supplies), list(demands), [list(row) for row in costs])
        answer = cheapest_transport(supplies, demands, costs)
        self.assertEqual((list(supplies), list(demands), [list(row) for row in costs]), before)
        self.check_answer(transport_problem(supplies, demands, costs), answer)
        self.assertIn(answer.kind, ("best", "empty"))
        return answer

    def test_examples(self):
        answer = self.check([5, 4], (3, 6), [[1, 4], (2, 3)])
        self.assertEqual((answer.totals, answer.point), ((23,), (3, 2, 0, 4)))
        self.assertEqual(self.check([1000], [1000], [[1000]]).totals, (1000000,))

    def test_nothing_to_send(self):
        self.assertEqual(self.check([0], [0], [[7]]).point, (0,))
        self.assertEqual(self.check([5, 0], [0, 0], [[7, 1], [1, 1]]).totals, (0,))
        self.assertEqual(self.check([0, 3], [3], [[1], [9]]).point, (0, 3))
        self.assertEqual(self.check([0], [1], [[7]]).kind, "empty")

    def test_costs_below_zero(self):
        """More than the demand is brought where that is worth while."""
        self.assertEqual(self.check([5], [2], [[-3]]).point, (5,))
        self.assertEqual(self.check([5, 4], [2, 1], [[-3, 2], [1, 0]]).totals, (-15,))

    def test_too_little_supply(self):
        for supplies, demands, costs in (([3], [4], [[1]]), ([2, 1], [2, 2], [[1, 1], [1, 1]]), ([9, 1], [1, 2], [[1, None], [1, 1]])):
            self.assertEqual(self.check(supplies, demands, costs).kind, "empty")

    def test_barred_pairs(self):
        self.assertEqual(self.check([5, 5], [3, 3], [[None, 1], [2, None]]).point, (3, 3))
        self.assertEqual(self.check([5, 5], [3, 0], [[None, 1], [None, 1]]).kind, "empty")
        self.assertEqual(self.check([5, 5], [0, 3], [[None, 1], [None, 1]]).totals, (3,))

    def test_chance(self):
        chance = random.Random(86)
        kinds = {}
        for _ in range(400):
            rows, columns = chance.randint(1, 4), chance.randint(1, 4)
            most = chance.choice((3, 9, 1000))
            supplies = [chance.randint(0, most) for _ in range(rows)]
            demands = [chance.randint(0, most // 2) for _ in range(columns)]
            barred, cost = chance.choice((0, 3)), chance.choice((3, 1000))
            costs = [[None if chance.randint(0, 9) < barred else chance.randint(-cost, cost) for _ in range(columns)] for _ in range(rows)]
            if all(entry is None for row in costs for entry in row):
                continue
            kind = self.check(supplies, demands, costs).kind
            kinds[kind] = kinds.get(kind, 0) + 1
        self.assertGreater(min(kinds["best"], kinds["empty"]), 40)

    def test_errors(self):
        for many in (0, 5):
            self.assertEqual(fault(cheapest_transport, [1] * many, [1] * many, []), (BadCount, {"what": "supplies", "many": many}))
            self.assertEqual(fault(cheapest_transport, [1], [1] * many, []), (BadCount, {"what": "demands", "many": many}))
        for supplies, demands, costs in (([-1], [1], [[1]]), ([1], [1001], [[1]]), ([1], [1], []), ([1], [1], [[1, 1]]), ([1], [1], [[HUGE]]),
                                         ([1001], [1], [[None]]), ([1, 1], [1], [[1]])):
            self.assertEqual(fault(cheapest_transport, supplies, demands, costs), (BadTable, {}))
        self.assertEqual(fault(cheapest_transport, [1], [1], [[None]]), (BadCount, {"what": "variables", "many": 0}))


if __name__ == "__main__":
    unittest.main()
