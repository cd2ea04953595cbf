"""Points 83 and 84: heights, rings and shortest roads."""

import random
import unittest

from bestpapers.refusals import NoPlace, SamePlace
from bestpapers.roads import heights, shortest_road
from bestpapers.webproblems import road_problem
from bestpapers.webs import Web
from tests.helpers import HUGE, fault, shape
from tests.some_webs import WebAnswers, is_ring, ring_edges, some_web


def web_of(places, *edges):
    """A web with edges (tail, head, cost)."""
    return Web(places, [(tail, head, 0, 1, cost) for tail, head, cost in edges], [0] * places)


def least_costs(web):
    """Least costs of walks with at most as many edges as there are places, from any start."""
    labels = [0] * web.places
    for _ in range(web.places):
        labels = [min([labels[place]] + [labels[tail] + cost for tail, head, _, _, cost in web.edges if head == place])
                  for place in range(web.places)]
    return labels


def has_ring(web):
    """Tell whether a ring has a sum of costs below zero."""
    labels = least_costs(web)
    return any(labels[tail] + cost < labels[head] for tail, head, _, _, cost in web.edges)


class Heights(unittest.TestCase):
    def check(self, web):
        kind, numbers = heights(web)
        self.assertEqual(heights(web).__class__, tuple)
        self.assertEqual(kind, "ring" if has_ring(web) else "heights")
        self.assertEqual({shape(number) for number in numbers}, {"int"})
        self.assertEqual(numbers.__class__, tuple)
        if kind == "heights":
            self.assertEqual(len(numbers), web.places)
            for tail, head, _, _, cost in web.edges:
                self.assertGreaterEqual(numbers[tail] + cost, numbers[head])
        else:
            self.assertTrue(is_ring(web, numbers))
            self.assertLess(sum(web.edges[at][4] for at in numbers), 0)
        return kind, numbers

    def test_heights(self):
        self.assertEqual(self.check(web_of(2, (0, 1, 5)))[0], "heights")
        self.assertEqual(self.check(web_of(3, (0, 1, -5), (1, 2, -3), (0, 2, -9)))[0], "heights")
        self.assertEqual(self.check(web_of(3, (0, 1, -5), (1, 0, 5)))[0], "heights")
        self.assertEqual(self.check(web_of(8, *[(at, at + 1, -1000) for at in range(7)], (7, 0, 1000)))[0], "ring")
        self.assertEqual(self.check(web_of(8, *[(at, at + 1, -100) for at in range(7)], (7, 0, 700)))[0], "heights")

    def test_costs_of_zero(self):
        self.assertEqual(self.check(web_of(3, (0, 1, 0), (1, 2, 0), (2, 0, 0)))[0], "heights")
        self.assertEqual(self.check(web_of(3, (0, 1, 0), (1, 2, 0), (2, 0, -1)))[0], "ring")

    def test_places_that_no_edge_touches(self):
        self.assertEqual(self.check(web_of(5, (1, 3, -7)))[0], "heights")
        self.assertEqual(self.check(web_of(5, (1, 3, -7), (3, 1, 6)))[0], "ring")

    def test_rings_of_two_edges(self):
        kind, ring = self.check(web_of(2, (0, 1, -3), (1, 0, 2)))
        self.assertEqual((kind, sorted(ring)), ("ring", [0, 1]))
        kind, ring = self.check(web_of(2, (0, 1, 3), (0, 1, -3), (1, 0, 2)))
        self.assertEqual((kind, sorted(ring)), ("ring", [1, 2]))

    def test_several_rings(self):
        self.check(web_of(6, (0, 1, -1), (1, 0, 0), (2, 3, -1), (3, 4, 0), (4, 2, 0), (4, 5, -9)))
        self.check(web_of(4, (0, 1, 1), (1, 0, 1), (1, 2, -9), (2, 1, 8), (2, 3, 5), (3, 2, -6)))

    def test_ends_and_supplies_have_no_effect(self):
        for low, high in ((0, 0), (3, None), (5, 5)):
            self.assertEqual(heights(Web(2, [(0, 1, low, high, -3), (1, 0, low, high, 2)], [7, -7]))[0], "ring")
            self.assertEqual(heights(Web(2, [(0, 1, low, high, -3), (1, 0, low, high, 3)], [7, -7]))[0], "heights")

    def test_chance(self):
        chance = random.Random(83)
        kinds = {}
        for _ in range(800):
            kind, _ = self.check(some_web(chance, cost=chance.choice((3, 1000)), places=chance.randint(2, 8)))
            kinds[kind] = kinds.get(kind, 0) + 1
        self.assertGreater(min(kinds.get(kind, 0) for kind in ("heights", "ring")), 100)

    def test_wide_webs(self):
        chance = random.Random(84)
        for _ in range(200):
            edges = [(*chance.sample(range(8), 2), chance.randint(-2, 9)) for _ in range(16)]
            self.check(web_of(8, *edges))


class Roads(unittest.TestCase, WebAnswers):
    def check(self, web, source, goal):
        answer = shortest_road(web, source, goal)
        self.check_answer(road_problem(web, source, goal), answer)
        reached = [source]
        for place in reached:
            reached += [head for tail, head, _, _, _ in web.edges if tail == place and head not in reached]
        if goal not in reached:
            self.assertEqual(answer.kind, "empty")
        else:
            self.assertEqual(answer.kind, "endless" if has_ring(web) else "best")
        if answer.kind == "best":
            self.check_road(web, source, goal, ring_edges(answer.point))
        return answer

    def check_road(self, web, source, goal, edges):
        """The edges form a road that passes no place twice."""
        place, passed = source, [source]
        while edges:
            step = [at for at in edges if web.edges[at][0] == place]
            self.assertEqual(len(step), 1)
            edges = [at for at in edges if at not in step]
            place = web.edges[step[0]][1]
            self.assertNotIn(place, passed)
            passed.append(place)
        self.assertEqual(place, goal)

    def test_best(self):
        web = web_of(4, (0, 1, 1), (1, 2, 1), (0, 2, 3), (2, 3, -5), (1, 3, 4))
        self.assertEqual((self.check(web, 0, 3).totals, self.check(web, 0, 3).point), ((-3,), (1, 1, 0, 1, 0)))
        self.assertEqual(self.check(web, 1, 3).totals, (-4,))

    def test_empty(self):
        web = web_of(4, (0, 1, 1), (2, 1, 1), (2, 3, -9), (3, 2, 5))
        for source, goal in ((0, 2), (1, 0), (1, 2), (0, 3)):
            self.assertEqual(self.check(web, source, goal).kind, "empty")

    def test_a_ring_that_lies_apart(self):
        web = web_of(5, (0, 1, 1), (2, 3, -9), (3, 2, 5))
        answer = self.check(web, 0, 1)
        self.assertEqual((answer.kind, answer.ray, answer.point), ("endless", (0, 1, 1), (1, 0, 0)))
        self.assertEqual(self.check(web, 1, 0).kind, "empty")

    def test_a_ring_on_the_road(self):
        web = web_of(3, (0, 1, 1), (1, 0, -2), (1, 2, 4))
        self.assertEqual(self.check(web, 0, 2).kind, "endless")

    def test_rings_of_cost_zero(self):
        web = web_of(4, (0, 1, 0), (1, 2, 0), (2, 0, 0), (2, 1, 0), (1, 0, 0), (2, 3, 0), (3, 2, 0))
        for source in range(4):
            for goal in range(4):
                if source != goal:
                    self.assertEqual(self.check(web, source, goal).totals, (0,))

    def test_ends_do_not_matter(self):
        for low, high in ((0, 0), (7, 9), (1000, None)):
            web = Web(3, [(0, 1, low, high, 2), (1, 2, low, high, 3)], [1000, -1000, 0])
            self.assertEqual((self.check(web, 0, 2).totals, self.check(web, 2, 0).kind), ((5,), "empty"))

    def test_costs_below_zero_that_cannot_be_reached(self):
        web = web_of(5, (0, 1, 4), (2, 1, -1000), (3, 2, -1000), (4, 3, -1000), (1, 0, 1000))
        self.assertEqual(self.check(web, 0, 1).totals, (4,))

    def test_errors(self):
        web = web_of(3, (0, 1, 1))
        for place in (-1, 3, HUGE):
            for other in (-1, 0, 3):
                self.assertEqual(fault(shortest_road, web, place, other), (NoPlace, {"place": place}))
            self.assertEqual(fault(shortest_road, web, 2, place), (NoPlace, {"place": place}))
        for place in range(3):
            self.assertEqual(fault(shortest_road, web, place, place), (SamePlace, {"place": place}))

    def test_chance(self):
        chance = random.Random(84)
        kinds = {}
        for _ in range(500):
            web = some_web(chance, cost=chance.choice((2, 9, 1000)), places=chance.randint(2, 8), edges=chance.randint(1, 16))
            if chance.randint(0, 1):
                web = Web(web.places, [edge[:4] + (abs(edge[4]),) for edge in web.edges], web.supplies)
            source, goal = chance.sample(range(web.places), 2)
            kind = self.check(web, source, goal).kind
            kinds[kind] = kinds.get(kind, 0) + 1
        self.assertGreater(min(kinds.values()), 30, kinds)
        self.assertEqual(len(kinds), 3)


if __name__ == "__main__":
    unittest.main()
