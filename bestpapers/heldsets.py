"""Held sets: all of them, one that is mended, and ways from one to another."""

from itertools import combinations
from math import comb

from bestpapers.errors import NoItem
from bestpapers.holdings import made_holding
from bestpapers.inverses import inverse_of, unit_inverse, with_row
from bestpapers.refusals import Dependent, TooMany
from bestpapers.wholeitems import WholeItems

MOST_SETS = 1000


def sets_of(size, many):
    """Return the ascending tuples of many of the first integers, in lexicographic order."""
    return list(combinations(range(size), many))


def are_independent(rows):
    """Tell whether n rows of n integers are independent."""
    try:
        inverse_of(rows)
    except Dependent:
        return False
    return True


def held_sets(node):
    """Yield the held sets of a node as ascending tuples, in lexicographic order."""
    many = comb(node.size, node.problem.n)
    if many > MOST_SETS:
        raise TooMany(many, MOST_SETS)
    rows = WholeItems(node).rows
    for chosen in sets_of(node.size, node.problem.n):
        if are_independent([rows[at] for at in chosen]):
            yield chosen


def repaired(node, wanted):
    """Return the held set that keeps as many wanted items as it can, the first ones first."""
    for at in wanted:
        if at < 0 or at >= node.size:
            raise NoItem(at)
    rows = WholeItems(node).rows
    inverse = unit_inverse(node.problem.n)
    kept = []
    for at in list(wanted) + list(range(node.size)):
        if len(kept) == node.problem.n:
            break
        grown = with_row(inverse, len(kept), rows[at])
        if grown is not None:
            inverse = grown
            kept.append(at)
    return tuple(sorted([int(at) for at in kept]))


def leaving(holding, into, last):
    """Return the least held item that is not in last and may leave for another one."""
    for at, share in zip(holding.chosen, holding.shares(into)):
        if share and at not in last:
            return at
    return None


def held_path(node, first, last):
    """Return the list of held sets that leads, item by item, from one to another."""
    holding = made_holding(node, first)
    goal = made_holding(node, last).chosen
    path = [holding.chosen]
    for into in goal:
        if into not in holding.chosen:
            holding = holding.exchanged(leaving(holding, into, goal), into)
            path.append(holding.chosen)
    return path
