"""Mirrors: the dual problems of problems."""

from bestpapers.checks import check_count
from bestpapers.corners import check_none_whole
from bestpapers.problems import Problem
from bestpapers.rows import Aim, Row
from bestpapers.stages import stage_constants, stage_rows
from bestpapers.variables import Variable
from bestpapers.vectors import negative, unit_row


def row_parts(row, at):
    """Return the parts of the mirror that belong to a row.

    A part is (name, low, high, column, number): a variable with its ends, its
    coefficients in all rows of the mirror, and its coefficient in the aim.
    """
    column = row.coefficients
    if row.sense == ">=":
        return [(f"y{at}", 0, None, column, row.right)]
    if row.sense == "<=":
        return [(f"y{at}", None, 0, column, row.right)]
    return [(f"y{at}a", 0, None, column, row.right),
            (f"y{at}b", 0, None, negative(column), -row.right)]


def end_parts(variable, at, n):
    """Return the parts of the mirror that belong to the ends of a variable."""
    unit = unit_row(at, n)
    parts = []
    if variable.low is not None:
        parts.append((f"p{at}", 0, None, unit, variable.low))
    if variable.high is not None:
        parts.append((f"q{at}", 0, None, negative(unit), -variable.high))
    return parts


def parts_of(problem):
    """Return all parts of the mirror of a problem."""
    parts = []
    for at, row in enumerate(problem.rows):
        parts.extend(row_parts(row, at))
    for at, variable in enumerate(problem.variables):
        parts.extend(end_parts(variable, at, problem.n))
    return parts


def mirror(problem):
    """Return the dual problem of a problem without whole variables and with one aim."""
    check_none_whole(problem)
    check_count("aims", len(problem.aims), 1, 1)
    parts = parts_of(problem)
    check_count("variables", len(parts), 1, Problem.MOST_VARIABLES)
    variables = [Variable(name, low, high) for name, low, high, _, _ in parts]
    rights = stage_rows(problem)[0]
    rows = [Row(f"x{at}", [column[at] for _, _, _, column, _ in parts], "=", rights[at])
            for at in range(problem.n)]
    aim = Aim("max", [number for _, _, _, _, number in parts], stage_constants(problem)[0])
    return Problem(variables, rows, [aim])
