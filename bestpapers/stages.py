"""Stages: the aims in order, and then the pulls of the variables."""

from bestpapers.checks import check_width
from bestpapers.fracs import Frac
from bestpapers.vectors import dot, negative, unit_row


def aim_row(aim):
    """Return the coefficients of an aim, turned so that less is better."""
    if aim.sense == "min":
        return aim.coefficients
    return negative(aim.coefficients)


def pull_row(problem, at):
    """Return the row of the pull of a variable."""
    row = unit_row(at, problem.n)
    if problem.variables[at].pull == "down":
        return row
    return negative(row)


def stage_rows(problem):
    """Return the list of the rows of the stages."""
    aims = [aim_row(aim) for aim in problem.aims]
    return aims + [pull_row(problem, at) for at in range(problem.n)]


def stage_constants(problem):
    """Return the tuple of the constants of the stages."""
    aims = [aim.constant if aim.sense == "min" else -aim.constant for aim in problem.aims]
    return tuple(aims + [Frac(0) for _ in range(problem.n)])


def stage_vector(problem, point):
    """Return the tuple of the numbers of a point, one for each stage."""
    check_width(len(point), problem.n)
    pairs = zip(stage_rows(problem), stage_constants(problem))
    return tuple([dot(row, point) + constant for row, constant in pairs])


def compare(problem, left, right):
    """Return -1 if left is before right, 1 if right is before left, otherwise 0."""
    first = stage_vector(problem, left)
    second = stage_vector(problem, right)
    if first < second:
        return -1
    return 1 if second < first else 0
