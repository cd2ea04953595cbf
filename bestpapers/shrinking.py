"""What is left of a problem while steps make it smaller, and what the steps have shown."""

from bestpapers.answers import Answer
from bestpapers.changes import with_ends, without_row
from bestpapers.fracs import Frac
from bestpapers.heads import assembled
from bestpapers.problems import Problem
from bestpapers.rows import Aim, Row
from bestpapers.vectors import negative, reduced, unit_row, zeros


def without(things, at):
    """Return a tuple without the entry at an index."""
    return things[:at] + things[at + 1:]


def row_without(row, at, value):
    """Return a row without a variable, which has this value."""
    right = row.right - row.coefficients[at] * value
    return Row(row.name, without(row.coefficients, at), row.sense, right)


def aim_without(aim, at, value):
    """Return an aim without a variable, which has this value."""
    constant = aim.constant + aim.coefficients[at] * value
    return Aim(aim.sense, without(aim.coefficients, at), constant)


def is_better(end, other, side):
    """Tell whether an end on a side is narrower than another one, which may be missing."""
    if other is None:
        return True
    return end > other if side == "low" else end < other


class Remains:
    """A problem that steps make smaller; what they show is told for the outer problem.

    places and row_places are the outer indexes of the variables and rows that are left.
    ends holds, for each side, the ends of all outer variables, also of those that were
    taken out. Each end that was set has a head, a "derive" that shows it; marks holds the
    indexes of these heads, None where the end is the outer problem's own.
    """

    def __init__(self, problem):
        variables = problem.variables
        self.outer = problem
        self.problem = problem
        self.places = tuple(range(problem.n))
        self.row_places = tuple(range(problem.m))
        self.ends = {"low": [variable.low for variable in variables],
                     "high": [variable.high for variable in variables]}
        self.marks = {"low": [None for _ in variables], "high": [None for _ in variables]}
        self.heads = []
        self.steps = []
        self.verdict = None

    def drop_row(self, at):
        """Take a row out."""
        self.problem = without_row(self.problem, self.problem.rows[at].name)
        self.row_places = without(self.row_places, at)

    def drop_variable(self, at):
        """Take a fixed variable out."""
        problem = self.problem
        value = problem.variables[at].low
        rows = [row_without(row, at, value) for row in problem.rows]
        aims = [aim_without(aim, at, value) for aim in problem.aims]
        self.problem = Problem(without(problem.variables, at), rows, aims)
        self.places = without(self.places, at)

    def outer_boxes(self):
        """Return the tuple of the boxes of the outer variables."""
        return tuple([(variable.low, variable.high) for variable in self.outer.variables])

    def outer_prices(self, numbers):
        """Return the prices at the outer rows that are numbers at the rows that are left."""
        prices = list(zeros(self.outer.m))
        for at, number in zip(self.row_places, numbers):
            prices[at] = number
        return tuple(prices)

    def rest_of(self, row, prices):
        """Return what is left of an outer row beside prices at the outer rows."""
        for price, outer_row in zip(prices, self.outer.rows):
            if price:
                row = reduced(row, price, outer_row.coefficients)
        return row

    def end_prices(self, rest, boxes):
        """Return prices at all heads, so that a rest is at the ends that were set.

        Where an outer box is at least as narrow as such an end, the box itself will do.
        """
        prices = list(zeros(len(self.heads)))
        for at, number in enumerate(rest):
            side = "low" if number > 0 else "high"
            mark = self.marks[side][at]
            box_end = boxes[at][0 if side == "low" else 1]
            if mark is not None and is_better(self.ends[side][at], box_end, side):
                prices[mark] = abs(number)
        return tuple(prices)

    def showing(self, row, numbers):
        """Return the prices at outer rows and heads, from numbers at the rows that are left."""
        prices = self.outer_prices(numbers)
        return prices + self.end_prices(self.rest_of(row, prices), self.outer_boxes())

    def narrow(self, at, side, end, row_at):
        """Set an end of a variable that one of the rows shows, if it is better than the present one."""
        variable = self.problem.variables[at]
        if variable.whole:
            end = Frac(end.ceiling() if side == "low" else end.floor())
        place = self.places[at]
        if not is_better(end, self.ends[side][place], side):
            return
        sign = 1 if side == "low" else -1
        coefficients = tuple([sign * number for number in unit_row(place, self.outer.n)])
        numbers = list(zeros(self.problem.m))
        numbers[row_at] = Frac(sign).over(self.problem.rows[row_at].coefficients[at])
        reason = ("rounded" if variable.whole else "added", self.showing(coefficients, numbers))
        self.ends[side][place] = end
        self.marks[side][place] = len(self.heads)
        self.heads.append(("derive", coefficients, sign * end, reason))

    def renew(self, at):
        """Give a variable the ends that were set; if they are crossed, the problem is empty."""
        low, high = [self.ends[side][self.places[at]] for side in ("low", "high")]
        if low is None or high is None or low <= high:
            self.problem = with_ends(self.problem, self.problem.variables[at].name, low, high)
            return
        # The last head shows one of the two ends; beside it the other end is needed.
        rest = negative(self.heads[-1][1])
        prices = self.end_prices(rest, self.outer_boxes())
        self.close(zeros(self.outer.m) + prices[:-1] + (Frac(1),))

    def close(self, prices):
        """Keep the verdict that the outer problem is empty, by prices at its rows and the heads."""
        self.verdict = Answer.empty(assembled(self.heads + [("empty", prices)]))
