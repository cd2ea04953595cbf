"""The items of a problem: its variables, and then its rows."""

from bestpapers.checks import check_width
from bestpapers.errors import NoItem
from bestpapers.fracs import as_frac
from bestpapers.vectors import dot, unit_row


def check_item(problem, at):
    """Raise NoItem unless the index is that of an item."""
    if at < 0 or at >= problem.n + problem.m:
        raise NoItem(at)


def item_row(problem, at):
    """Return the row of an item, a tuple of n numbers."""
    check_item(problem, at)
    if at < problem.n:
        return unit_row(at, problem.n)
    return problem.rows[at - problem.n].coefficients


def item_box(problem, at):
    """Return the pair of the ends of an item; None for a missing end."""
    check_item(problem, at)
    if at < problem.n:
        variable = problem.variables[at]
        return (variable.low, variable.high)
    row = problem.rows[at - problem.n]
    if row.sense == "<=":
        return (None, row.right)
    if row.sense == ">=":
        return (row.right, None)
    return (row.right, row.right)


def item_name(problem, at):
    """Return the name of an item."""
    check_item(problem, at)
    if at < problem.n:
        return problem.variables[at].name
    return problem.rows[at - problem.n].name


def item_value(problem, at, point):
    """Return the value of an item at a point."""
    check_item(problem, at)
    check_width(len(point), problem.n)
    if at < problem.n:
        return as_frac(point[at])
    return dot(problem.rows[at - problem.n].coefficients, point)
