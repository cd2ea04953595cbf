"""Ways from a point of a problem to one of its corners; whole variables are like others."""

from bestpapers.changes import relaxed
from bestpapers.checks import check_width
from bestpapers.fracs import Frac
from bestpapers.heldsets import repaired
from bestpapers.holdings import made_holding
from bestpapers.itemrows import item_box, item_value
from bestpapers.nodes import Node
from bestpapers.points import is_feasible
from bestpapers.refusals import NotFeasible
from bestpapers.vectors import as_fracs, negative, reduced


def check_feasible(problem, point):
    """Raise the errors of a point that is not feasible when no variable is whole."""
    check_width(len(point), problem.n)
    if not is_feasible(relaxed(problem), point):
        raise NotFeasible()


def side_at(problem, at, point):
    """Return the side of the end at which an item is, None if it is at no end."""
    value = item_value(problem, at, point)
    low, high = item_box(problem, at)
    if low is not None and value == low:
        return "low"
    return "high" if high is not None and value == high else None


def first_stop(problem, point, direction):
    """Return (length, item) of the end that stops a move first, None if nothing stops it."""
    found = None
    for at in range(problem.n + problem.m):
        rate = item_value(problem, at, direction)
        low, high = item_box(problem, at)
        end = high if rate > 0 else low
        if not rate or end is None:
            continue
        length = (end - item_value(problem, at, point)).over(rate)
        if found is None or length < found[0]:
            found = (length, at)
    return found


def better_direction(holding, at):
    """Return the direction in which a held item alone moves, so that the stages get better."""
    place = holding.chosen.index(at)
    direction = tuple([Frac(line[place]) for line in holding.inverse.grid])
    return negative(direction) if holding.held_sides()[place] == "low" else direction


def led(problem, point, may_turn):
    """Return (holding, point, ray): a corner and its held items, all of them at ends.

    Items that are at an end stay there. The point gets better all the way, unless it
    turns where nothing stops it; if it may not turn there, this way is the ray.
    """
    point = as_fracs(point)
    node = Node(problem)
    ended = [at for at in range(node.size) if side_at(problem, at, point) is not None]
    holding = made_holding(node, repaired(node, ended))
    free = [at for at in holding.chosen if at not in ended]
    for out in free:
        direction = better_direction(holding, out)
        stop = first_stop(problem, point, direction)
        if stop is None:
            if not may_turn:
                return (holding, point, direction)
            # Each variable has an end, so no line can go on without end both ways.
            direction = negative(direction)
            stop = first_stop(problem, point, direction)
        length, into = stop
        point = reduced(point, -length, direction)
        if into != out:
            holding = holding.exchanged(out, into)
    return (holding, point, None)
