"""Sweeps: how the best value of the first aim follows the right side of a row."""

from bestpapers.changes import first_aims, put_at, with_right
from bestpapers.checks import check_count
from bestpapers.corners import check_none_whole
from bestpapers.dual import dual_run
from bestpapers.errors import Crossed, NoAim
from bestpapers.floorlines import floor_lines
from bestpapers.fracs import Frac
from bestpapers.joining import widened
from bestpapers.nodes import Node
from bestpapers.problems import Problem, place_of
from bestpapers.refusals import NoTold
from bestpapers.rows import Aim, Row
from bestpapers.solving import endless_aim, solve
from bestpapers.variables import Variable
from bestpapers.vectors import zeros


class Touch:
    """The prices that show the best number at a right side, and the line that they make."""

    def __init__(self, right, number, slope, prices):
        self.right = right
        self.number = number
        self.slope = slope
        self.prices = prices

    def height(self, right):
        """Return the number that the prices show at a right side."""
        return self.number + self.slope * (right - self.right)


def check_sweep(problem, name, low, high):
    """Raise the first error of a sweep that shows before anything is solved."""
    place_of(problem.rows, name)
    if low > high:
        raise Crossed(name)
    check_none_whole(problem)
    if not problem.aims:
        raise NoAim(0)
    check_count("variables", problem.n + 1, 1, Problem.MOST_VARIABLES)


def free_name(problem):
    """Return a name that nothing in a problem has."""
    at = 0
    while f"right{at}" in problem:
        at += 1
    return f"right{at}"


def last_right(problem, name, low, high, sense):
    """Return the least or the greatest right side at which there are points, or None."""
    at = place_of(problem.rows, name)
    moved = problem.rows[at]
    # One more variable takes the part of the right side.
    variable = Variable(free_name(problem), low, high)
    rows = put_at(
        tuple([widened(row, 0, 1) for row in problem.rows]),
        at,
        Row(name, moved.coefficients + (-1,), moved.sense, 0),
    )
    aim = Aim(sense, zeros(problem.n) + (1,))
    answer = solve(Problem(problem.variables + (variable,), rows, [aim]))
    return None if answer.kind == "empty" else answer.point[problem.n]


def touch_at(problem, name, right):
    """Return the touch at a right side at which there are points."""
    run = dual_run(Node(with_right(problem, name, right)))
    if endless_aim(run.table) is not None:
        raise NoTold("endless")
    prices = floor_lines(run.table, 1)[0][1]
    number = run.table.vector()[0].parts[1]
    return Touch(right, number, prices[place_of(problem.rows, name)], prices)


def crossing(left, right):
    """Return the right side at which the lines of two touches with different slopes meet."""
    gap = right.height(left.right) - left.number
    return left.right + gap.over(left.slope - right.slope)


def pieces_between(problem, name, left, right):
    """Return the list of (start, end, touch) from one touch to another, in ascending order."""
    pieces = []
    waiting = [(left, right)]
    while waiting:
        left, right = waiting.pop()
        if right.height(left.right) == left.number:
            pieces.append((left.right, right.right, right))
            continue
        if left.height(right.right) == right.number:
            pieces.append((left.right, right.right, left))
            continue
        middle = touch_at(problem, name, crossing(left, right))
        if left.height(middle.right) == middle.number:
            pieces.append((left.right, middle.right, left))
            pieces.append((middle.right, right.right, right))
        else:
            waiting.extend([(middle, right), (left, middle)])
    return pieces


def merged(pieces):
    """Return pieces where those side by side with equal slopes are made one."""
    found = []
    for start, end, touch in pieces:
        if found and found[-1][2].slope == touch.slope:
            first, _, kept = found.pop()
            found.append((first, end, kept))
        else:
            found.append((start, end, touch))
    return found


def sweep(problem, name, low, high):
    """Return the pieces (start, end, value, slope, prices) from a low to a high right side."""
    check_sweep(problem, name, low, high)
    inner = first_aims(problem, 1)
    start = last_right(inner, name, low, high, "min")
    if start is None:
        return []
    end = last_right(inner, name, low, high, "max")
    pieces = pieces_between(inner, name, touch_at(inner, name, start), touch_at(inner, name, end))
    sign = Frac(1 if inner.aims[0].sense == "min" else -1)
    return [(first, last, sign * touch.height(first), sign * touch.slope, touch.prices)
            for first, last, touch in merged(pieces)]
