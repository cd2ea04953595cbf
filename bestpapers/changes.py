"""New problems in which one thing differs from a given one."""

from bestpapers.errors import NoAim
from bestpapers.problems import Problem, place_of
from bestpapers.rows import Row
from bestpapers.variables import Variable


def put_at(things, at, thing):
    """Return a tuple in which one entry is another one."""
    return things[:at] + (thing,) + things[at + 1:]


def other_variable(problem, at, variable):
    """Return the problem with another variable at an index."""
    return Problem(put_at(problem.variables, at, variable), problem.rows, problem.aims)


def other_row(problem, at, row):
    """Return the problem with another row at an index."""
    return Problem(problem.variables, put_at(problem.rows, at, row), problem.aims)


def with_rows(problem, *rows):
    """Return the problem with more rows behind the others."""
    return Problem(problem.variables, problem.rows + rows, problem.aims)


def without_row(problem, name):
    """Return the problem without the row of this name."""
    at = place_of(problem.rows, name)
    return Problem(problem.variables, problem.rows[:at] + problem.rows[at + 1:], problem.aims)


def with_right(problem, name, right):
    """Return the problem with another right side of the row of this name."""
    at = place_of(problem.rows, name)
    row = problem.rows[at]
    return other_row(problem, at, Row(name, row.coefficients, row.sense, right))


def with_coefficient(problem, name, variable, number):
    """Return the problem with another coefficient of a row at a variable."""
    at = place_of(problem.rows, name)
    row = problem.rows[at]
    coefficients = put_at(row.coefficients, place_of(problem.variables, variable), number)
    return other_row(problem, at, Row(name, coefficients, row.sense, row.right))


def with_ends(problem, name, low, high):
    """Return the problem with other ends of a variable."""
    at = place_of(problem.variables, name)
    variable = problem.variables[at]
    needed = low if variable.pull == "down" else high
    pull = None if needed is None else variable.pull
    changed = Variable(name, low, high, whole=variable.whole, pull=pull)
    return other_variable(problem, at, changed)


def with_whole(problem, name, whole):
    """Return the problem with a variable that is whole or not."""
    at = place_of(problem.variables, name)
    return other_variable(problem, at, turned_whole(problem.variables[at], whole))


def turned_whole(variable, whole):
    """Return a variable that is whole or not, and the same otherwise."""
    return Variable(variable.name, variable.low, variable.high, whole=whole, pull=variable.pull)


def with_pull(problem, name, pull):
    """Return the problem with another pull of a variable; None for the usual one."""
    at = place_of(problem.variables, name)
    variable = problem.variables[at]
    changed = Variable(name, variable.low, variable.high, whole=variable.whole, pull=pull)
    return other_variable(problem, at, changed)


def with_aims(problem, aims):
    """Return the problem with other aims."""
    return Problem(problem.variables, problem.rows, aims)


def first_aims(problem, many):
    """Return the problem with its first aims only."""
    if many < 0 or many > len(problem.aims):
        raise NoAim(many)
    return with_aims(problem, problem.aims[:many])


def relaxed(problem):
    """Return the problem with no variable whole."""
    variables = [turned_whole(variable, False) for variable in problem.variables]
    return Problem(variables, problem.rows, problem.aims)
