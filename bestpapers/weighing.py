"""Weights that make one aim of all stages."""

from bestpapers.changes import with_aims
from bestpapers.checks import check_width
from bestpapers.corners import check_none_whole
from bestpapers.dual import dual_run
from bestpapers.fracs import Frac
from bestpapers.nodes import Node
from bestpapers.refusals import NoTold
from bestpapers.rows import Aim
from bestpapers.stages import stage_constants, stage_rows
from bestpapers.vectors import dot, reduced, zeros


def told_table(problem):
    """Return the table of the told point; NoTold tells why there is none."""
    run = dual_run(Node(problem))
    if run.stuck is not None:
        raise NoTold("empty")
    if any([bool(tall.parts[0]) for tall in run.table.vector()]):
        raise NoTold("endless")
    return run.table


def free_columns(table):
    """Return the columns of the held items that are not fixed."""
    return [table.column(at) for at in table.chosen if not table.holding.wholes.is_fixed(at)]


def first_place(numbers):
    """Return the index of the first number that is not zero."""
    return [bool(number) for number in numbers].index(True)


def weights(problem):
    """Return numbers above zero by which the weighed stages have the told point alone as the least."""
    check_none_whole(problem)
    table = told_table(problem)
    columns = free_columns(table)
    many = len(table.vector())
    found = list(zeros(many))
    for stage in reversed(range(many)):
        # A move into the box is worse in the first stage that it changes: with a weight
        # that is great enough there, it is worse, whatever the stages behind it say.
        least = Frac(0)
        for column in columns:
            if first_place(column) == stage:
                needed = -dot(found, column).over(column[stage])
                if needed > least:
                    least = needed
        found[stage] = least + 1
    return tuple(found)


def weighed(problem, numbers):
    """Return the problem whose only aim is the sum of number times stage."""
    rows = stage_rows(problem)
    check_width(len(numbers), len(rows))
    coefficients = zeros(problem.n)
    for number, row in zip(numbers, rows):
        coefficients = reduced(coefficients, -number, row)
    constant = dot(stage_constants(problem), numbers)
    return with_aims(problem, [Aim("min", coefficients, constant)])
