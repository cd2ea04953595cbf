"""Problems side by side, and rows multiplied or put into another order."""

from bestpapers.changes import other_row
from bestpapers.checks import check_count
from bestpapers.errors import BadFactor, BadOrder, UnlikeAims
from bestpapers.problems import Problem, place_of
from bestpapers.rows import Aim, Row
from bestpapers.vectors import zeros

# What a sense becomes if its row is multiplied by a number below zero.
TURNED = {"<=": ">=", ">=": "<=", "=": "="}


def check_like_aims(left, right):
    """Raise UnlikeAims unless two problems have aims of the same senses."""
    if [aim.sense for aim in left.aims] != [aim.sense for aim in right.aims]:
        raise UnlikeAims(len(left.aims), len(right.aims))


def widened(row, before, behind):
    """Return a row with numbers of zeros before and behind its coefficients."""
    coefficients = zeros(before) + row.coefficients + zeros(behind)
    return Row(row.name, coefficients, row.sense, row.right)


def joined_aim(left, right):
    """Return the aim that has the coefficients and the constants of two aims."""
    return Aim(left.sense, left.coefficients + right.coefficients, left.constant + right.constant)


def beside(left, right):
    """Return the problem of two problems side by side."""
    check_like_aims(left, right)
    check_count("variables", left.n + right.n, 1, Problem.MOST_VARIABLES)
    rows = [widened(row, 0, right.n) for row in left.rows]
    rows = rows + [widened(row, left.n, 0) for row in right.rows]
    aims = [joined_aim(first, second) for first, second in zip(left.aims, right.aims)]
    return Problem(left.variables + right.variables, rows, aims)


def scaled(problem, name, factor):
    """Return the problem with the row of this name multiplied by a number."""
    at = place_of(problem.rows, name)
    if factor == 0:
        raise BadFactor()
    row = problem.rows[at]
    sense = TURNED[row.sense] if factor < 0 else row.sense
    coefficients = [factor * number for number in row.coefficients]
    return other_row(problem, at, Row(name, coefficients, sense, factor * row.right))


def reordered(problem, order):
    """Return the problem with its rows in another order."""
    if len(order) != problem.m or not all([at in order for at in range(problem.m)]):
        raise BadOrder(order)
    return Problem(problem.variables, [problem.rows[at] for at in order], problem.aims)
