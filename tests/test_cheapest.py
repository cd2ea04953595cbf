"""Point 81: the cheapest flows."""

import random
import unittest

from bestpapers.cheapest import cheapest_flow
from bestpapers.webproblems import web_problem
from bestpapers.webs import Web
from tests.some_webs import WebAnswers, is_ring, ring_edges, some_web


class Cheapest(unittest.TestCase, WebAnswers):
    def check(self, web):
        before = (web.places, web.edges, web.supplies)
        answer = cheapest_flow(web)
        self.assertEqual((web.places, web.edges, web.supplies), before)
        self.check_answer(web_problem(web), answer)
        if answer.kind == "endless":
            ring = ring_edges(answer.ray)
            self.assertLess(sum(web.edges[at][4] for at in ring), 0)
            self.assertEqual([web.edges[at][3] for at in ring], [None] * len(ring))
        return answer

    def best(self, web, total, *point):
        answer = self.check(web)
        self.assertEqual((answer.kind, answer.totals), ("best", (total,)))
        if point:
            self.assertEqual(answer.point, point)

    def test_the_document(self):
        self.best(Web(3, [(0, 1, 0, 2, 1), (1, 2, 0, None, 1), (0, 2, 0, 5, 3)], [3, 0, -3]), 7, 2, 2, 1)

    def test_low_ends_above_zero(self):
        self.best(Web(3, [(0, 1, 1, 2, 9), (1, 2, 0, None, 1), (0, 2, 0, 5, 3)], [3, 0, -3]), 16, 1, 1, 2)
        self.best(Web(2, [(0, 1, 3, 3, 2), (1, 0, 2, 5, 4)], [0, 0]), 18, 3, 3)
        self.assertEqual(self.check(Web(2, [(0, 1, 3, 3, 2), (1, 0, 0, 2, 4)], [0, 0])).kind, "empty")

    def test_costs_below_zero(self):
        self.best(Web(2, [(0, 1, 0, 4, -2), (1, 0, 0, 7, 1)], [0, 0]), -4, 4, 4)
        self.best(Web(2, [(0, 1, 0, 4, -2), (1, 0, 0, None, 1)], [0, 0]), -4, 4, 4)
        self.best(Web(2, [(0, 1, 0, None, -2), (1, 0, 0, 3, -1)], [1, -1]), -11, 4, 3)
        self.best(Web(2, [(0, 1, 0, None, -2), (1, 0, 0, None, 2)], [1, -1]), -2)

    def test_endless(self):
        for edges in ([(0, 1, 0, None, -2), (1, 0, 0, None, 1)], [(0, 1, 2, None, 1), (1, 2, 0, None, 1), (2, 0, 1, None, -3), (0, 2, 0, 9, -9)]):
            web = Web(3, edges, [0, 0, 0])
            answer = self.check(web)
            self.assertEqual(answer.kind, "endless")
            self.assertTrue(is_ring(web, ring_edges(answer.ray)))

    def test_a_ring_that_lies_apart(self):
        web = Web(4, [(0, 1, 0, 2, 1), (2, 3, 0, None, -1), (3, 2, 0, None, 0)], [2, -2, 0, 0])
        answer = self.check(web)
        self.assertEqual((answer.kind, answer.ray), ("endless", (0, 1, 1)))
        self.assertEqual(self.check(Web(4, web.edges, [3, -3, 0, 0])).kind, "empty")

    def test_rings_of_edges_with_bounds(self):
        """Only edges without a bound, gone forward, make a problem endless."""
        self.assertEqual(self.check(Web(2, [(0, 1, 0, 1000, -9), (1, 0, 0, None, 1)], [0, 0])).kind, "best")
        self.assertEqual(self.check(Web(2, [(0, 1, 0, None, 5), (0, 1, 0, None, -5)], [3, -3])).kind, "best")

    def test_empty(self):
        for web in (Web(2, [(1, 0, 0, None, 1)], [1, -1]), Web(2, [(0, 1, 0, 2, 1)], [3, -3]), Web(2, [(0, 1, 2, None, 1)], [1, -1]),
                    Web(3, [(0, 1, 0, None, 1)], [1, 0, -1]), Web(3, [(0, 1, 1, 1, 1)], [0, 0, 0])):
            answer = self.check(web)
            self.assertEqual((answer.kind, answer.paper[0]), ("empty", "empty"))

    def test_places_without_edges(self):
        self.best(Web(4, [(1, 2, 0, 5, 3)], [0, 2, -2, 0]), 6, 2)
        self.assertEqual(self.check(Web(4, [(1, 2, 0, 5, 3)], [1, 2, -3, 0])).kind, "empty")

    def test_parallel_edges(self):
        self.best(Web(2, [(0, 1, 0, 2, 3), (0, 1, 0, 2, 1), (0, 1, 0, 9, 2)], [5, -5]), 8, 0, 2, 3)

    def test_great_numbers(self):
        self.best(Web(2, [(0, 1, 1000, 1000, 1000)], [1000, -1000]), 1000000, 1000)
        self.best(Web(2, [(0, 1, 0, 1000, -1000), (1, 0, 0, 1000, -1000)], [0, 0]), -2000000, 1000, 1000)
        middle = Web(4, [(0, 1, 0, 1000, 0), (1, 2, 0, 1, 0), (0, 2, 0, 1000, 0), (1, 3, 0, 1000, 0), (2, 3, 0, 1000, 0)], [1000, 0, 0, -1000])
        self.best(middle, 0)

    def test_chance(self):
        chance = random.Random(81)
        kinds = {}
        for _ in range(700):
            kind = self.check(some_web(chance, wide=chance.choice((0, 2, 5)))).kind
            kinds[kind] = kinds.get(kind, 0) + 1
        self.assertGreater(min(kinds.values()), 30, kinds)
        self.assertEqual(len(kinds), 3)

    def test_wide_webs(self):
        chance = random.Random(82)
        for _ in range(40):
            self.check(some_web(chance, wide=chance.choice((0, 2)), most=50, cost=1000, places=8, edges=16))


if __name__ == "__main__":
    unittest.main()
