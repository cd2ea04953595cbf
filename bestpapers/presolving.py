"""The presolver: smaller problems with the same feasible points."""

from bestpapers.answers import Answer
from bestpapers.checks import check_width
from bestpapers.errors import Unfit
from bestpapers.fracs import as_frac
from bestpapers.leading import led_paper, led_point, widened_row
from bestpapers.paperforms import fits
from bestpapers.refusals import Decided
from bestpapers.shrinking import Remains
from bestpapers.steps import made_step


class Trace:
    """How a problem was made smaller, and the way back; it never changes."""

    def __init__(self, remains):
        self.outer = remains.outer
        self.inner = remains.problem if remains.verdict is None else None
        self.verdict = remains.verdict
        self.steps = tuple(remains.steps)
        self._remains = remains

    def point_in(self, point):
        """Return the values of the inner variables at a point of the outer problem."""
        self._check_undecided()
        check_width(len(point), self.outer.n)
        return tuple([as_frac(point[place]) for place in self._remains.places])

    def point_back(self, point):
        """Return the point of the outer problem to which a point of the inner one belongs."""
        self._check_undecided()
        check_width(len(point), self.inner.n)
        return led_point(self._remains, point)

    def back(self, answer):
        """Return an answer of the inner problem as one of the outer problem."""
        self._check_undecided()
        if not fits(self.inner, answer.paper):
            raise Unfit()
        for numbers in (answer.point, answer.ray):
            if numbers is not None and len(numbers) != self.inner.n:
                raise Unfit()
        point = None if answer.point is None else self.point_back(answer.point)
        ray = None if answer.ray is None else widened_row(self._remains, answer.ray)
        paper = led_paper(self._remains, answer.paper)
        return Answer(answer.kind, answer.totals, point, answer.at, ray, paper)

    def _check_undecided(self):
        """Raise Decided if the problem was found empty."""
        if self.inner is None:
            raise Decided()


def presolve(problem):
    """Return the trace of the steps that make a problem smaller until no step is found."""
    remains = Remains(problem)
    found = True
    while found and remains.verdict is None:
        found = made_step(remains)
    return Trace(remains)
