"""Point 82: the greatest flows, and bars."""

import random
import unittest

from bestpapers.errors import BadCount
from bestpapers.greatest import bar, greatest_flow
from bestpapers.refusals import HasLow, NoPlace, SamePlace
from bestpapers.webproblems import flow_problem
from bestpapers.webs import Web
from tests.helpers import HUGE, fault
from tests.some_webs import WebAnswers, some_web


def carried(web, places):
    """The sum of the high ends of the edges that lead out of places."""
    return sum(high for tail, head, _, high, _ in web.edges if tail in places and head not in places)


class Greatest(unittest.TestCase, WebAnswers):
    def check(self, web, source, sink):
        answer = greatest_flow(web, source, sink)
        self.check_answer(flow_problem(web, source, sink), answer)
        if any(edge[2] for edge in web.edges):
            at = next(at for at, edge in enumerate(web.edges) if edge[2])
            self.assertEqual(fault(bar, web, source, sink), (HasLow, {"at": at}))
        else:
            self.check_bar(web, source, sink, answer)
        return answer

    def check_bar(self, web, source, sink, answer):
        places = bar(web, source, sink)
        self.assertEqual(places is None, answer.kind == "endless")
        if places is not None:
            self.assertEqual(places, tuple(sorted(set(places))))
            self.assertTrue(source in places and sink not in places)
            self.assertTrue(all(0 <= place < web.places and place.__class__ is int for place in places))
            self.assertEqual(carried(web, places), answer.totals[0])

    def test_examples(self):
        web = Web(4, [(0, 1, 0, 3, 0), (0, 2, 0, 2, 0), (1, 3, 0, 2, 0), (2, 3, 0, 4, 0), (1, 2, 0, 5, 0)], [0] * 4)
        answer = self.check(web, 0, 3)
        self.assertEqual((answer.totals, answer.point[5]), ((5,), 5))
        self.assertEqual(bar(web, 0, 3), (0,))
        self.assertEqual(self.check(web, 3, 0).totals, (0,))
        self.assertEqual(self.check(web, 1, 2).totals, (5,))

    def test_supplies_and_costs_have_no_effect(self):
        web = Web(3, [(0, 1, 0, 3, 9), (1, 2, 0, 2, -9)], [1000, 0, -1000])
        self.assertEqual(self.check(web, 0, 2).totals, (2,))
        web = Web(3, [(0, 1, 0, 3, -9), (1, 0, 0, None, -9), (0, 1, 0, None, -9)], [0, 0, 0])
        self.assertEqual(self.check(web, 0, 2).totals, (0,))

    def test_low_ends(self):
        web = Web(3, [(0, 1, 2, 3, 0), (1, 2, 0, 1, 0), (1, 2, 0, 1, 0)], [0] * 3)
        self.assertEqual(self.check(web, 0, 2).totals, (2,))
        self.assertEqual(self.check(web, 2, 0).kind, "empty")
        self.assertEqual(self.check(Web(3, [(0, 1, 2, 3, 0), (1, 2, 0, 1, 0)], [0] * 3), 0, 2).kind, "empty")

    def test_amounts_cannot_go_back(self):
        """The amount is not below zero, although edges may lead from the sink to the source."""
        self.assertEqual(self.check(Web(2, [(1, 0, 1, 5, 0)], [0, 0]), 0, 1).kind, "empty")
        self.assertEqual(self.check(Web(2, [(1, 0, 1, 5, 0), (0, 1, 0, 3, 0)], [0, 0]), 0, 1).totals, (2,))

    def test_endless(self):
        web = Web(3, [(0, 1, 0, None, 5), (1, 2, 0, None, 5), (0, 2, 0, 7, 0)], [0] * 3)
        answer = self.check(web, 0, 2)
        self.assertEqual((answer.kind, answer.ray, bar(web, 0, 2)), ("endless", (1, 1, 0, 1), None))

    def test_no_way(self):
        web = Web(3, [(0, 1, 0, 4, 0), (2, 1, 0, 4, 0)], [0] * 3)
        self.assertEqual(self.check(web, 0, 2).totals, (0,))
        self.assertEqual(bar(web, 0, 2), (0, 1))

    def test_errors(self):
        wide = Web(3, [(0, 1, 2, 2, 0)] * 16, [0, 0, 0])
        low = Web(3, [(0, 1, 0, 5, 0), (1, 2, 2, 5, 0), (0, 2, 1, 1, 0)], [0, 0, 0])
        for function in (greatest_flow, bar):
            for web in (wide, low):
                for place in (-1, 3, HUGE):
                    for other in (-1, 0, 3):
                        self.assertEqual(fault(function, web, place, other), (NoPlace, {"place": place}))
                    self.assertEqual(fault(function, web, 2, place), (NoPlace, {"place": place}))
                for place in range(3):
                    self.assertEqual(fault(function, web, place, place), (SamePlace, {"place": place}))
            self.assertEqual(fault(function, wide, 0, 1), (BadCount, {"what": "variables", "many": 17}))
        self.assertEqual(fault(bar, low, 0, 2), (HasLow, {"at": 1}))
        self.assertEqual(greatest_flow(low, 0, 2).totals, (6,))

    def test_chance(self):
        chance = random.Random(82)
        kinds = {}
        for _ in range(600):
            web = some_web(chance, wide=chance.choice((0, 2, 5)), lows=chance.choice((True, False)))
            source, sink = chance.sample(range(web.places), 2)
            kind = self.check(web, source, sink).kind
            kinds[kind] = kinds.get(kind, 0) + 1
        self.assertGreater(min(kinds.values()), 30, kinds)
        self.assertEqual(len(kinds), 3)

    def test_wide_webs(self):
        chance = random.Random(83)
        for _ in range(30):
            web = some_web(chance, wide=1, most=60, places=8, edges=15, lows=False)
            self.check(web, 0, 7)


if __name__ == "__main__":
    unittest.main()
