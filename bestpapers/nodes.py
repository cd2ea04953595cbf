"""Nodes: problems with narrower boxes and with derived rows."""

from bestpapers.checks import check_width
from bestpapers.errors import NoItem, NoSplit
from bestpapers.floors import floor_by
from bestpapers.fracs import Frac, as_frac
from bestpapers.itemrows import item_box, item_row
from bestpapers.points import is_feasible, is_inside
from bestpapers.problems import has_whole
from bestpapers.vectors import as_fracs, dot


def made_node(problem, boxes, extra):
    """Return the node of a problem with these boxes and derived rows."""
    node = Node(problem)
    node.boxes = boxes
    node.extra = extra
    node.size = problem.n + problem.m + len(extra)
    return node


def can_split(node, variable, k):
    """Tell whether a node has two halves at k, an integer, of a variable."""
    if not has_whole(node.problem, variable):
        return False
    low, high = node.boxes[variable]
    return low <= k and k < high


class Node:
    """A problem with narrower boxes and with derived rows; it never changes."""

    def __init__(self, problem):
        self.problem = problem
        self.boxes = tuple([(variable.low, variable.high) for variable in problem.variables])
        self.extra = ()
        self.size = problem.n + problem.m

    def half(self, variable, k, side):
        """Return the node in which a whole variable is at most k, or at least k + 1."""
        if not can_split(self, variable, k):
            raise NoSplit(variable, k)
        low, high = self.boxes[variable]
        box = (low, Frac(k)) if side == "low" else (Frac(k + 1), high)
        boxes = self.boxes[:variable] + (box,) + self.boxes[variable + 1:]
        return made_node(self.problem, boxes, self.extra)

    def derived(self, coefficients, right):
        """Return the node with one more row: the sum is at least right."""
        check_width(len(coefficients), self.problem.n)
        row = (as_fracs(coefficients), as_frac(right))
        return made_node(self.problem, self.boxes, self.extra + (row,))

    def row_of(self, at):
        """Return the row of an item, a tuple of n numbers."""
        if at < 0 or at >= self.size:
            raise NoItem(at)
        first = self.problem.n + self.problem.m
        if at < first:
            return item_row(self.problem, at)
        return self.extra[at - first][0]

    def box_of(self, at):
        """Return the pair of the ends of an item; None for a missing end."""
        if at < 0 or at >= self.size:
            raise NoItem(at)
        if at < self.problem.n:
            return self.boxes[at]
        first = self.problem.n + self.problem.m
        if at < first:
            return item_box(self.problem, at)
        return (self.extra[at - first][1], None)

    def admits(self, point):
        """Tell whether a point is feasible in this node."""
        if not is_feasible(self.problem, point):
            return False
        if not all([is_inside(value, box) for value, box in zip(point, self.boxes)]):
            return False
        return all([dot(row, point) >= right for row, right in self.extra])

    def floor(self, row, constant, prices):
        """Return what prices show about the least value of a sum, or None."""
        check_width(len(row), self.problem.n)
        check_width(len(prices), self.problem.m + len(self.extra))
        return floor_by(self, row, constant, prices)
