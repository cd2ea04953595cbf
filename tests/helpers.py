"""What several test files share."""

from bestpapers.errors import BestError
from bestpapers.fracs import Frac
from bestpapers.problems import Problem
from bestpapers.rows import Aim, Row
from bestpapers.variables import Variable

HUGE = 10 ** 40


def fault(call, *values, **named):
    """Return (class, attributes) of the error that a call raises, or None."""
    try:
        call(*values, **named)
    except BestError as error:
        return error.__class__, vars(error)
    return None


def shape(value):
    """Tell the kinds of a value, inside tuples and lists too."""
    if value.__class__ in (tuple, list):
        return value.__class__.__name__, [shape(part) for part in value]
    return value.__class__.__name__


def texts(numbers):
    """Return the written forms of Fracs; anything else than a Frac is an error."""
    if not all(number.__class__ is Frac for number in numbers):
        raise TypeError("not all Fracs: " + repr(numbers))
    return [str(number) for number in numbers]


def variables(count, **named):
    """Return the variables x0, x1, and so on, all with the same ends."""
    return [Variable(f"x{at}", **named) for at in range(count)]


def sample():
    """A problem with every kind of item: variables x, y, z and rows a, b, c."""
    return Problem(
        [
            Variable("x", 0, 5, whole=True),
            Variable("y", Frac(-1, 2), None),
            Variable("z", None, 7),
        ],
        [
            Row("a", [1, 2, 0], "<=", 6),
            Row("b", (0, Frac(1, 3), -1), ">=", -4),
            Row("c", [2, 0, 1], "=", Frac(5, 2)),
        ],
        [Aim("min", [1, 1, 1], 4), Aim("max", (Frac(1, 2), 0, -2))],
    )


def picture(problem):
    """Everything that a problem holds, as plain values."""
    return (
        [(v.name, v.low, v.high, v.whole, v.pull) for v in problem.variables],
        [(r.name, r.coefficients, r.sense, r.right) for r in problem.rows],
        [(a.sense, a.coefficients, a.constant) for a in problem.aims],
    )
