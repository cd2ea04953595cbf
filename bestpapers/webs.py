"""Webs: places, edges between them, and supplies."""

from bestpapers.checks import check_count, check_width
from bestpapers.refusals import BadEdge, BadSupply, NoPlace, Unbalanced

LEAST_PLACES = 2
MOST_PLACES = 8
MOST_EDGES = 16
MOST_AMOUNT = 1000


def check_place(places, place):
    """Raise NoPlace unless there is such a place."""
    if place < 0 or place >= places:
        raise NoPlace(place)


def is_amount(number):
    """Tell whether an integer is from -1000 to 1000."""
    return -MOST_AMOUNT <= number and number <= MOST_AMOUNT


def is_edge(tail, head, low, high, cost):
    """Tell whether the ends of an edge and its cost are right."""
    if tail == head or low < 0 or low > MOST_AMOUNT or not is_amount(cost):
        return False
    return high is None or (low <= high and high <= MOST_AMOUNT)


def check_edges(places, edges):
    """Raise the first error of the edges of a web."""
    check_count("edges", len(edges), 1, MOST_EDGES)
    for at, (tail, head, low, high, cost) in enumerate(edges):
        check_place(places, tail)
        check_place(places, head)
        if not is_edge(tail, head, low, high, cost):
            raise BadEdge(at)


def check_supplies(places, supplies):
    """Raise the first error of the supplies of a web."""
    check_width(len(supplies), places)
    for place, supply in enumerate(supplies):
        if not is_amount(supply):
            raise BadSupply(place)
    total = sum(supplies)
    if total != 0:
        raise Unbalanced(total)


class Web:
    """Places, edges (tail, head, low, high, cost) and supplies; it never changes."""

    def __init__(self, places, edges, supplies):
        check_count("places", places, LEAST_PLACES, MOST_PLACES)
        check_edges(places, edges)
        check_supplies(places, supplies)
        self.places = places
        self.edges = tuple([tuple(edge) for edge in edges])
        self.supplies = tuple(supplies)
