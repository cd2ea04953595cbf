"""Listings: which points come first, with a paper, and their judge."""

from bestpapers.errors import NotAllWhole
from bestpapers.judging import accepts
from bestpapers.points import is_feasible
from bestpapers.stages import compare, stage_vector
from bestpapers.vectors import as_fracs


class Listing:
    """The first feasible points of a problem, or all of them; it never changes."""

    def __init__(self, points, complete, paper):
        self.points = tuple([as_fracs(point) for point in points])
        self.complete = complete
        self.paper = paper


def check_all_whole(problem):
    """Raise NotAllWhole unless all variables are whole."""
    for variable in problem.variables:
        if not variable.whole:
            raise NotAllWhole()


def are_in_order(problem, points):
    """Tell whether points are feasible, and each comes after the one before it."""
    for point in points:
        if len(point) != problem.n or not is_feasible(problem, point):
            return False
    pairs = zip(points, points[1:])
    return all([compare(problem, first, second) < 0 for first, second in pairs])


def judge_listing(problem, points, complete, paper):
    """Tell whether points are the first feasible ones, or all, as a paper shows."""
    check_all_whole(problem)
    if not are_in_order(problem, points):
        return False
    if complete:
        return accepts(problem, None, points, paper)
    if not points:
        return False
    return accepts(problem, stage_vector(problem, points[-1]), points, paper)
