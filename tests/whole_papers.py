"""Papers for problems in which all variables are whole: every single point has its leaf."""

import itertools

from bestpapers.points import is_feasible
from bestpapers.stages import stage_vector


def whole_points(problem):
    """All choices of whole numbers within the boxes."""
    ranges = [range(variable.low.num, variable.high.num + 1) for variable in problem.variables]
    return list(itertools.product(*ranges))


def feasible_points(problem):
    """All feasible points, the first one first."""
    points = [point for point in whole_points(problem) if is_feasible(problem, point)]
    return sorted(points, key=lambda point: stage_vector(problem, point))


def leaf(problem, point, targets):
    """A paper for the node that holds one point alone."""
    for at, row in enumerate(problem.rows):
        if not row(point):
            price = -1 if row.amount(point) > row.right else 1
            return ("empty", tuple(price if k == at else 0 for k in range(problem.m)))
    many = 0
    for number, target in zip(stage_vector(problem, point), targets or ()):
        many += 1
        if number > target:
            break
    none = (0,) * problem.m
    return ("floors", tuple(((0,) * at, none) for at in range(many)))


def full_paper(problem, targets, chosen=()):
    """A paper that halves the problem until each leaf holds one point."""
    at = len(chosen)
    if at == problem.n:
        return leaf(problem, chosen, targets)
    low, high = problem.variables[at].low.num, problem.variables[at].high.num
    paper = full_paper(problem, targets, chosen + (high,))
    for value in range(high - 1, low - 1, -1):
        paper = ("branch", at, value, full_paper(problem, targets, chosen + (value,)), paper)
    return paper
