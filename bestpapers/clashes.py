"""Clashes: few rows that cannot be satisfied together."""

from bestpapers.changes import first_aims, without_row
from bestpapers.refusals import NotEmpty
from bestpapers.solving import solve


def is_empty(problem):
    """Tell whether a problem has no feasible point."""
    return solve(problem).kind == "empty"


def clash(problem):
    """Return the names of rows that leave no point, although any of them left out would."""
    rest = first_aims(problem, 0)
    if not is_empty(rest):
        raise NotEmpty()
    for row in problem.rows:
        smaller = without_row(rest, row.name)
        if is_empty(smaller):
            rest = smaller
    return tuple([row.name for row in rest.rows])
