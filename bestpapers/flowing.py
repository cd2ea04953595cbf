"""Flows with whole amounts, and the prices that show that none is cheaper, or that there is none."""

from bestpapers.rings import lowered, ring_below_zero, way_to

# A step costs this many times as much as it did, and 1 more, so that of equally cheap ways
# the one with the fewest steps is taken.
STEP = 100


class Stream:
    """What was found out about a web: amounts, a ring and prices, as far as there are such.

    Without amounts there is no flow, and with a ring no cheapest one.
    """

    def __init__(self, amounts, ring, prices):
        self.amounts = amounts
        self.ring = ring
        self.prices = prices


def unbounded_ring(places, edges):
    """Return the edges of a ring without bounds and with costs below zero, or None."""
    wide = [at for at, edge in enumerate(edges) if edge[3] is None]
    arcs = [(edges[at][0], edges[at][1], edges[at][4]) for at in wide]
    ring = ring_below_zero(places, arcs)
    return None if ring is None else tuple([wide[at] for at in ring])


def first_amounts(places, edges):
    """Return amounts, one at an end of each edge, that no ring makes cheaper."""
    arcs = [(tail, head, cost) for tail, head, _, high, cost in edges if high is None]
    labels, _, _ = lowered([0 for _ in range(places)], arcs)
    # An edge without a bound never leads to a label that it would lower.
    return [high if cost + labels[tail] < labels[head] else low
            for tail, head, low, high, cost in edges]


def moves(edges, amounts):
    """Return the list of (edge, turn): where an amount may become greater (1) or less (-1)."""
    found = []
    for at, (_, _, low, high, _) in enumerate(edges):
        if high is None or amounts[at] < high:
            found.append((at, 1))
        if amounts[at] > low:
            found.append((at, -1))
    return found


def arcs_of(edges, steps):
    """Return the arcs (tail, head, cost) of moves."""
    return [(edges[at][0], edges[at][1], edges[at][4]) if turn > 0
            else (edges[at][1], edges[at][0], -edges[at][4]) for at, turn in steps]


def excesses(edges, supplies, amounts):
    """Return what is still to leave each place."""
    left = list(supplies)
    for (tail, head, _, _, _), amount in zip(edges, amounts):
        left[tail] = left[tail] - amount
        left[head] = left[head] + amount
    return left


def reached_goal(labels, left):
    """Return the first place with a label to which something is still to come, or None."""
    for place, label in enumerate(labels):
        if left[place] < 0 and label is not None:
            return place
    return None


def room_of(edges, amounts, step):
    """Return how far an amount can be moved, None for without end."""
    at, turn = step
    _, _, low, high, _ = edges[at]
    if turn < 0:
        return amounts[at] - low
    return None if high is None else high - amounts[at]


def pushed(edges, amounts, path, most):
    """Return the amounts behind moves along a path, as far as all of them can be made."""
    for step in path:
        room = room_of(edges, amounts, step)
        if room is not None and room < most:
            most = room
    moved = list(amounts)
    for at, turn in path:
        moved[at] = moved[at] + turn * most
    return moved


def routed(places, edges, supplies):
    """Return the stream of a web without a ring as unbounded_ring finds it.

    As long as a place has something left, it is sent the cheapest way to a place to which
    something is still to come; so no ring ever makes the amounts cheaper.
    """
    amounts = first_amounts(places, edges)
    left = excesses(edges, supplies, amounts)
    while any([number > 0 for number in left]):
        start = [number > 0 for number in left].index(True)
        steps = moves(edges, amounts)
        arcs = [(tail, head, STEP * cost + 1) for tail, head, cost in arcs_of(edges, steps)]
        labels, ways, _ = lowered([0 if at == start else None for at in range(places)], arcs)
        goal = reached_goal(labels, left)
        if goal is None:
            # More is to leave the places that were reached than their edges can carry away.
            return Stream(None, None, [0 if label is None else 1 for label in labels])
        path = [steps[at] for at in way_to(arcs, ways, goal)]
        most = left[start] if left[start] < -left[goal] else -left[goal]
        amounts = pushed(edges, amounts, path, most)
        left = excesses(edges, supplies, amounts)
    labels, _, _ = lowered([0 for _ in range(places)], arcs_of(edges, moves(edges, amounts)))
    return Stream(amounts, None, [-label for label in labels])


def streamed(places, edges, supplies):
    """Return the stream of places, edges (tail, head, low, high, cost) and supplies."""
    ring = unbounded_ring(places, edges)
    if ring is None:
        return routed(places, edges, supplies)
    costless = [(tail, head, low, high, 0) for tail, head, low, high, _ in edges]
    stream = routed(places, costless, supplies)
    return Stream(stream.amounts, ring, stream.prices)


def reached(places, edges, amounts, start):
    """Return the ascending tuple of the places to which more could be sent from a place."""
    arcs = [(tail, head, 0) for tail, head, _ in arcs_of(edges, moves(edges, amounts))]
    labels, _, _ = lowered([0 if at == start else None for at in range(places)], arcs)
    return tuple([place for place, label in enumerate(labels) if label is not None])
