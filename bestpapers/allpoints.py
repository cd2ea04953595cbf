"""The plain way for problems in which all variables are whole: all points, one after another."""

from bestpapers.listings import check_all_whole
from bestpapers.points import is_feasible
from bestpapers.stages import compare
from bestpapers.vectors import as_fracs


def whole_points(problem):
    """Return all choices of whole numbers within the boxes."""
    points = [[]]
    for variable in problem.variables:
        numbers = list(range(variable.low.num, variable.high.num + 1))
        points = [point + [number] for point in points for number in numbers]
    return points


def by_points(problem):
    """Return the feasible point that is before all others, or None."""
    check_all_whole(problem)
    first = None
    for point in whole_points(problem):
        if is_feasible(problem, point) and (first is None or compare(problem, point, first) < 0):
            first = point
    return None if first is None else as_fracs(first)
