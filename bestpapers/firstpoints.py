"""The first feasible points of a problem in which all variables are whole."""

from bestpapers.checks import check_count
from bestpapers.dual import walked
from bestpapers.heads import assembled
from bestpapers.holdings import made_holding
from bestpapers.listings import Listing, check_all_whole
from bestpapers.nodes import Node
from bestpapers.searching import Part, first_broken, plain_corner, tree_heads

MOST_POINTS = 8


def whole_root(problem):
    """Return the part of a whole problem, with the run that begins with the variables."""
    _, holding, stuck = walked(made_holding(Node(problem), tuple(range(problem.n))))
    return Part(holding, stuck)


def parting_place(part):
    """Return (variable, k), where a part is to be halved; None if it is one point alone."""
    point = plain_corner(part.holding)
    broken = first_broken(part.holding.node.problem, point)
    if broken is not None:
        return (broken, point[broken].floor())
    for at, (low, high) in enumerate(part.holding.node.boxes):
        if low != high:
            k = point[at].floor()
            return (at, k if point[at] < high else k - 1)
    return None


def put_in_order(waiting, part):
    """Put a part into a list in which the part that holds the first points stands last."""
    start = 0
    end = len(waiting)
    while start < end:
        middle = (start + end) // 2
        if waiting[middle].rank > part.rank:
            start = middle + 1
        else:
            end = middle
    waiting.insert(start, part)


def listed_parts(root, many):
    """Halve a part until its first points stand alone; return the parts of these points."""
    found = []
    waiting = [root] if root.stuck is None else []
    while waiting and len(found) < many:
        part = waiting.pop()
        place = parting_place(part)
        if place is None:
            part.listed = len(found)
            found.append(part)
            continue
        variable, k = place
        part.halve(variable, k)
        for half in part.halves:
            if half.stuck is None:
                put_in_order(waiting, half)
    return found


def first_points(problem, many):
    """Return the listing of the first feasible points, as many as told if there are so many."""
    check_all_whole(problem)
    check_count("points", many, 1, MOST_POINTS)
    root = whole_root(problem)
    found = listed_parts(root, many)
    # Without a found point, every leaf is empty, and no part is compared with the last one.
    last = found[-1] if found else root
    paper = assembled(tree_heads(root, last, len(problem.aims) + problem.n))
    points = [plain_corner(part.holding) for part in found]
    return Listing(points, len(found) < many, paper)
