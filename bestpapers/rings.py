"""Labels of places that are lowered along arcs, and the rings that lower them without end."""


def lowered(labels, arcs):
    """Return (labels, ways, place): labels from which no arc (tail, head, cost) leads to a lower one.

    The way of a place is the index of the arc that lowered its label last, or None; a
    label may be None where nothing is known. If the labels would be lowered without end,
    place is one that was still lowered in the last round; otherwise it is None.
    """
    labels = list(labels)
    ways = [None for _ in labels]
    place = None
    for _ in range(len(labels)):
        place = None
        for at, (tail, head, cost) in enumerate(arcs):
            if labels[tail] is None:
                continue
            number = labels[tail] + cost
            if labels[head] is None or number < labels[head]:
                labels[head] = number
                ways[head] = at
                place = head
        if place is None:
            break
    return (labels, ways, place)


def way_to(arcs, ways, place):
    """Return the list of the indexes of the arcs that lead to a place, from where they begin.

    It stops where it comes to a place for the second time.
    """
    found = []
    seen = {}
    while ways[place] is not None and place not in seen:
        seen[place] = True
        found.append(ways[place])
        place = arcs[ways[place]][0]
    return found[::-1]


def ring_at(arcs, ways, place):
    """Return the list of the indexes of the arcs of the ring to which the ways from a place lead back."""
    # Behind as many ways as there are places, the ring is reached.
    for _ in ways:
        place = arcs[ways[place]][0]
    return way_to(arcs, ways, place)


def ring_below_zero(places, arcs):
    """Return the indexes of arcs that form a ring with a sum of costs below zero, or None."""
    _, ways, place = lowered([0 for _ in range(places)], arcs)
    return None if place is None else tuple(ring_at(arcs, ways, place))
