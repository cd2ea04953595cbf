"""Answers: claims about problems, each with a paper."""

from bestpapers.vectors import as_fracs


class Answer:
    """A claim of one of four kinds with its paper; it never changes."""

    def __init__(self, kind, totals, point, at, ray, paper):
        self.kind = kind
        self.totals = as_fracs(totals)
        self.point = None if point is None else as_fracs(point)
        self.at = at
        self.ray = None if ray is None else as_fracs(ray)
        self.paper = paper

    @staticmethod
    def told(totals, point, paper):
        """Return the answer that a point is the told point."""
        return Answer("told", totals, point, None, None, paper)

    @staticmethod
    def best(totals, point, paper):
        """Return the answer that no feasible point is better than this one."""
        return Answer("best", totals, point, None, None, paper)

    @staticmethod
    def empty(paper):
        """Return the answer that there is no feasible point."""
        return Answer("empty", (), None, None, None, paper)

    @staticmethod
    def endless(at, totals, point, ray, paper):
        """Return the answer that an aim gets better without end along a ray."""
        return Answer("endless", totals, point, at, ray, paper)
