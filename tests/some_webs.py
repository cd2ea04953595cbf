"""Webs that chance makes, and what holds for every answer about them."""

from bestpapers.judges import judge
from bestpapers.paperforms import fits
from bestpapers.points import aim_values
from bestpapers.solving import solve
from bestpapers.webs import Web
from tests.helpers import shape
from tests.made_papers import numbers_in


def some_edge(chance, places, wide, most, cost, lows):
    tail, head = chance.sample(range(places), 2)
    low = chance.choice((0, 0, 0, 1, 2)) if lows else 0
    high = None if chance.randint(0, 9) < wide else low + chance.randint(0, most)
    return (tail, head, low, high, chance.randint(-cost, cost))


def some_web(chance, wide=3, most=5, cost=5, places=None, edges=None, lows=True):
    """A web; each edge is without a bound with a chance of wide in ten. Mostly there is a flow."""
    places = places or chance.randint(2, 5)
    edges = [some_edge(chance, places, wide, most, cost, lows) for _ in range(edges or chance.randint(1, 9))]
    supplies = [0] * places
    flows = chance.randint(0, 4)
    for tail, head, low, high, _ in edges:
        amount = low + chance.randint(0, most)
        if high is not None:
            amount = min(amount, high)
        supplies[tail] += amount if flows else chance.randint(0, 2)
        supplies[head] -= amount if flows else 0
    supplies[0] -= sum(supplies)
    return Web(places, edges, supplies)


def is_ring(web, ring):
    """Tell whether edges form a ring in this order that passes no place twice."""
    tails = [web.edges[at][0] for at in ring]
    heads = [web.edges[at][1] for at in ring]
    return len(ring) > 0 and tails == heads[-1:] + heads[:-1] and len(set(tails)) == len(tails)


def ring_edges(ray):
    """The edges with 1 in a ray, which has 0 elsewhere."""
    if any(number not in (0, 1) for number in ray):
        raise ValueError(repr(ray))
    return [at for at, number in enumerate(ray) if number]


class WebAnswers:
    """Checks for a test case."""

    def check_answer(self, problem, answer):
        """Look at all that holds for an answer about a web, and compare it with solve."""
        found = solve(problem)
        self.assertIs(judge(problem, answer), True)
        self.assertTrue(fits(problem, answer.paper))
        whole, numbers = numbers_in(answer.paper)
        self.assertEqual({shape(number) for number in numbers} - {"Frac"}, set())
        if answer.kind == "best":
            self.assertEqual((found.kind, found.totals), ("told", answer.totals))
            self.assertEqual(answer.totals, aim_values(problem, answer.point))
            self.assertEqual((answer.paper[0], len(answer.paper[1])), ("floors", 1))
        else:
            self.assertEqual(answer.kind, found.kind)
        if answer.kind == "endless":
            self.assertEqual((answer.at, answer.totals), (0, ()))
        for row in (answer.point, answer.ray):
            if row is not None:
                self.assertEqual(shape(row), ("tuple", ["Frac"] * problem.n))
                self.assertTrue(all(number.is_whole for number in row))
        return answer.kind
