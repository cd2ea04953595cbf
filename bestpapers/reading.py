"""Problems read from texts."""

from bestpapers.checks import check_count
from bestpapers.errors import BadNumber, BadText
from bestpapers.lines import WrongLine, read_aim, read_row, read_variable
from bestpapers.problems import Problem
from bestpapers.rows import Aim, Row
from bestpapers.variables import Variable

# Which lines come first; a line never comes before one of a lower rank.
RANKS = {"var": 0, "row": 1, "min": 2, "max": 2}


def read_line(words, rank, names):
    """Return what the words of a line of a rank say."""
    if rank == 0:
        return read_variable(words)
    if rank == 1:
        return read_row(words, names)
    return read_aim(words, names)


def read_lines(lines):
    """Return three lists: what the lines say of variables, of rows and of aims."""
    parts = [[], [], []]
    names = []
    least = 0
    for at, line in enumerate(lines):
        words = line.split(" ")
        rank = RANKS.get(words[0], -1)
        if rank < least:
            raise BadText(at)
        least = rank
        try:
            parts[rank].append(read_line(words, rank, names))
        except (WrongLine, BadNumber):
            raise BadText(at) from None
        if rank == 0:
            names.append(words[1])
    return parts


def read_problem(text):
    """Return the problem that a text describes."""
    variables, rows, aims = read_lines(text.split("\n"))
    check_count("variables", len(variables), 1, Problem.MOST_VARIABLES)
    return Problem(
        [Variable(name, low, high, whole=whole, pull=pull)
         for name, low, high, whole, pull in variables],
        [Row(name, coefficients, sense, right) for name, coefficients, sense, right in rows],
        [Aim(sense, coefficients, constant) for sense, coefficients, constant in aims],
    )
