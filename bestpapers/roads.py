"""Heights that no edge exceeds, rings, and shortest roads."""

from bestpapers.flowing import streamed
from bestpapers.rings import lowered, ring_at
from bestpapers.webanswers import web_answer
from bestpapers.webproblems import check_ways, road_problem


def heights(web):
    """Return ("heights", numbers), or ("ring", edges) if costs of a ring have a sum below zero."""
    arcs = [(tail, head, cost) for tail, head, _, _, cost in web.edges]
    labels, ways, place = lowered([0 for _ in range(web.places)], arcs)
    if place is not None:
        return ("ring", tuple(ring_at(arcs, ways, place)))
    return ("heights", tuple(labels))


def shortest_road(web, source, goal):
    """Return the answer for the problem of a shortest road from one place to another."""
    check_ways(web, source, goal)
    edges = [(tail, head, 0, None, cost) for tail, head, _, _, cost in web.edges]
    supplies = [0 for _ in range(web.places)]
    supplies[source] = 1
    supplies[goal] = -1
    stream = streamed(web.places, edges, supplies)
    return web_answer(road_problem(web, source, goal), stream, stream.prices)
