"""Sessions: problems that change, and are solved anew from where the last run ended."""

from bestpapers.changes import (
    with_aims, with_coefficient, with_ends, with_right, with_rows, with_whole, without_row,
)
from bestpapers.checks import check_count
from bestpapers.dual import dual_run
from bestpapers.heldsets import repaired
from bestpapers.nodes import Node
from bestpapers.problems import place_of
from bestpapers.solving import MOST_CUTS, answer_of


def held_without(chosen, out):
    """Return held items without one that is taken out; those behind it get lesser indexes."""
    return tuple([at - 1 if at > out else at for at in chosen if at != out])


class Session:
    """A problem that changes, and the held items with which its last solve ended."""

    def __init__(self, problem):
        self.problem = problem
        self.chosen = None
        self.exchanges = None
        self._cuts = 0

    @property
    def cuts(self):
        """How many cuts solve may make."""
        return self._cuts

    @cuts.setter
    def cuts(self, value):
        check_count("cuts", value, 0, MOST_CUTS)
        self._cuts = value

    def use_cuts(self, many):
        """Set how many cuts solve may make."""
        self.cuts = many

    def put_rows(self, *rows):
        """Put rows behind the others."""
        self.problem = with_rows(self.problem, *rows)

    def drop_row(self, name):
        """Take a row out, also out of the held items."""
        problem = self.problem
        out = problem.n + place_of(problem.rows, name)
        self.problem = without_row(problem, name)
        if self.chosen is not None:
            self.chosen = held_without(self.chosen, out)

    def move_right(self, name, right):
        """Give a row another right side."""
        self.problem = with_right(self.problem, name, right)

    def move_coefficient(self, name, variable, number):
        """Give a row another coefficient at a variable."""
        self.problem = with_coefficient(self.problem, name, variable, number)

    def move_ends(self, name, low, high):
        """Give a variable other ends."""
        self.problem = with_ends(self.problem, name, low, high)

    def make_whole(self, name, whole):
        """Make a variable whole or not."""
        self.problem = with_whole(self.problem, name, whole)

    def turn_aims(self, aims):
        """Give the problem other aims."""
        self.problem = with_aims(self.problem, aims)

    def solve(self):
        """Return the answer of the present problem, from where the last run ended."""
        node = Node(self.problem)
        wanted = () if self.chosen is None else self.chosen
        run = dual_run(node, repaired(node, wanted))
        self.chosen = run.table.chosen
        self.exchanges = len(run.path) - 1
        return answer_of(run, self.cuts)

    def __setitem__(self, at, worth):
        self.move_right(at, worth)
