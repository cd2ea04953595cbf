"""The solver behind the presolver."""

from bestpapers.checks import check_count
from bestpapers.presolving import presolve
from bestpapers.solving import MOST_CUTS, solve


def solve_presolved(problem, *, cuts=0):
    """Return the answer of a problem, by way of the smaller problem that the presolver makes."""
    check_count("cuts", cuts, 0, MOST_CUTS)
    trace = presolve(problem)
    if trace.inner is None:
        return trace.verdict
    return trace.back(solve(trace.inner, cuts=cuts))
