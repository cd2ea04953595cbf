"""The commands of a desk that change its problem.

Each function takes the present problem, None if there is no variable, and the words of a
line; it returns the changed problem, or raises WrongLine or BadNumber if the words are wrong.
"""

from bestpapers.changes import (
    with_aims, with_coefficient, with_ends, with_right, with_rows, without_row,
)
from bestpapers.checks import check_count
from bestpapers.errors import NoName
from bestpapers.fracs import Frac
from bestpapers.joining import widened
from bestpapers.lines import WrongLine, read_aim, read_end, read_row, read_variable
from bestpapers.problems import Problem
from bestpapers.rows import Aim, Row
from bestpapers.variables import Variable


def check_words(words, many):
    """Raise WrongLine unless there are that many words."""
    if len(words) != many:
        raise WrongLine()


def names_in(problem):
    """Return the list of the names of the variables."""
    return [] if problem is None else [variable.name for variable in problem.variables]


def problem_with(problem, name):
    """Return the problem in which something is to have this name; without a problem nothing has."""
    if problem is None:
        raise NoName(name)
    return problem


def widened_aim(aim):
    """Return an aim with the coefficient 0 at one more variable."""
    return Aim(aim.sense, aim.coefficients + (0,), aim.constant)


def put_variable(problem, words):
    """Put a variable behind the others."""
    name, low, high, whole, pull = read_variable(words)
    before, rows, aims = (), (), ()
    if problem is not None:
        before, rows, aims = problem.variables, problem.rows, problem.aims
    check_count("variables", len(before) + 1, 1, Problem.MOST_VARIABLES)
    variable = Variable(name, low, high, whole=whole, pull=pull)
    wide_rows = [widened(row, 0, 1) for row in rows]
    return Problem(before + (variable,), wide_rows, [widened_aim(aim) for aim in aims])


def put_row(problem, words):
    """Put a row behind the others; without variables, this is an error of the row."""
    name, coefficients, sense, right = read_row(words, names_in(problem))
    return with_rows(problem, Row(name, coefficients, sense, right))


def put_aim(problem, words):
    """Put an aim behind the others; without variables, this is an error of the aim."""
    sense, coefficients, constant = read_aim(words, names_in(problem))
    aim = Aim(sense, coefficients, constant)
    return with_aims(problem, problem.aims + (aim,))


def drop_row(problem, words):
    """Take a row out."""
    check_words(words, 2)
    return without_row(problem_with(problem, words[1]), words[1])


def drop_aims(problem, words):
    """Take all aims out."""
    check_words(words, 1)
    return None if problem is None else with_aims(problem, ())


def set_right(problem, words):
    """Give a row another right side."""
    check_words(words, 3)
    number = Frac.read(words[2])
    return with_right(problem_with(problem, words[1]), words[1], number)


def set_coefficient(problem, words):
    """Give a row another coefficient at a variable."""
    check_words(words, 4)
    number = Frac.read(words[3])
    return with_coefficient(problem_with(problem, words[1]), words[1], words[2], number)


def set_ends(problem, words):
    """Give a variable other ends."""
    check_words(words, 4)
    low = read_end(words[2])
    high = read_end(words[3])
    return with_ends(problem_with(problem, words[1]), words[1], low, high)


EDITS = {
    "var": put_variable,
    "row": put_row,
    "min": put_aim,
    "max": put_aim,
    "drop": drop_row,
    "aimless": drop_aims,
    "right": set_right,
    "coef": set_coefficient,
    "ends": set_ends,
}


def edit(problem, words):
    """Return the problem changed as the words of a line say."""
    change = EDITS[words[0]]
    return change(problem, words)


def is_edit(word):
    """Tell whether a word begins a command that changes the problem."""
    return word in EDITS
