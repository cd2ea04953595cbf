"""Point 85: the cheapest pairings."""

import itertools
import random
import unittest

from bestpapers.errors import BadCount
from bestpapers.pairings import cheapest_pairing
from bestpapers.refusals import BadTable
from bestpapers.webproblems import pairing_problem
from tests.helpers import HUGE, fault
from tests.some_webs import WebAnswers


def least(costs):
    """The least sum of costs by a search through all pairings, None if there is none."""
    many = range(len(costs))
    sums = [[costs[row][column] for row, column in zip(many, columns)] for columns in itertools.permutations(many)]
    return min((sum(row) for row in sums if None not in row), default=None)


class Pairings(unittest.TestCase, WebAnswers):
    def check(self, costs):
        before = [list(row) for row in costs]
        answer = cheapest_pairing(costs)
        self.assertEqual([list(row) for row in costs], before)
        problem = pairing_problem(costs)
        self.check_answer(problem, answer)
        expected = least(costs)
        self.assertEqual((answer.kind, answer.totals), ("empty", ()) if expected is None else ("best", (expected,)))
        if expected is not None:
            pairs = [variable.name for variable, number in zip(problem.variables, answer.point) if number == 1]
            self.assertTrue(all(number in (0, 1) for number in answer.point))
            self.assertEqual([pair[1] for pair in pairs], [str(at) for at in range(len(costs))])
            self.assertEqual(sorted(pair[2] for pair in pairs), [str(at) for at in range(len(costs))])
        return answer

    def test_examples(self):
        self.assertEqual(self.check([[-5]]).point, (1,))
        self.assertEqual(self.check([[1, 2], [2, 4]]).point, (0, 1, 1, 0))
        self.assertEqual(self.check(((1, 2), [2, 1])).totals, (2,))
        self.assertEqual(self.check([[None, 3], [4, -1000]]).point, (1, 1, 0))
        self.assertEqual(self.check([[1000] * 4] * 4).totals, (4000,))

    def test_no_pairing(self):
        for costs in ([[None, 1], [None, 1]], [[None, None], [1, 1]], [[1, None, None], [1, None, None], [1, 1, 1]],
                      [[None, None, 1, 1], [None, None, 1, 1], [None, None, 1, 1], [1, 1, 1, 1]]):
            self.assertEqual(self.check(costs).kind, "empty")

    def test_against_a_search(self):
        chance = random.Random(85)
        kinds = {}
        for many in range(1, 5):
            for _ in range(120):
                barred = chance.choice((0, 3, 6))
                cost = chance.choice((2, 9, 1000))
                costs = [[None if chance.randint(0, 9) < barred else chance.randint(-cost, cost) for _ in range(many)] for _ in range(many)]
                if all(entry is None for row in costs for entry in row):
                    continue
                kind = self.check(costs).kind
                kinds[kind] = kinds.get(kind, 0) + 1
        self.assertGreater(min(kinds["best"], kinds["empty"]), 40)

    def test_errors(self):
        for costs in ([], [[1] * 5] * 5, [[1, 2]], [[1, 2], [3]], [[1001]], [[0, 0], [0, -1001]], [[None, HUGE], [None, None]], [[]]):
            self.assertEqual(fault(cheapest_pairing, costs), (BadTable, {}))
        for many in range(1, 5):
            self.assertEqual(fault(cheapest_pairing, [[None] * many] * many), (BadCount, {"what": "variables", "many": 0}))


if __name__ == "__main__":
    unittest.main()
