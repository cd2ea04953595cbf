"""The plain way for problems without whole variables: all corners, one after another."""

from math import comb

from bestpapers.fracs import Frac
from bestpapers.heldsets import held_sets
from bestpapers.holdings import made_holding
from bestpapers.nodes import Node
from bestpapers.points import is_feasible
from bestpapers.refusals import IsWhole, TooMany
from bestpapers.stages import compare

MOST_CORNERS = 4000


def check_none_whole(problem):
    """Raise IsWhole for the first whole variable."""
    for variable in problem.variables:
        if variable.whole:
            raise IsWhole(variable.name)


def choices_of_ends(boxes):
    """Return all choices of one end from each box; a missing end is no choice."""
    choices = [[]]
    for low, high in boxes:
        ends = [end for end in (low, high) if end is not None]
        if low == high:
            ends = [low]
        choices = [choice + [end] for choice in choices for end in ends]
    return choices


def corners_of(holding):
    """Return the points at which each held item is at an end of its own."""
    boxes = [holding.wholes.boxes[at] for at in holding.chosen]
    base = holding.inverse.base
    solved = [holding.inverse.solved(ends) for ends in choices_of_ends(boxes)]
    return [tuple([Frac(number, base) for number in numbers]) for numbers in solved]


def by_corners(problem):
    """Return the feasible corner that is before all others, or None."""
    check_none_whole(problem)
    many = comb(problem.n + problem.m, problem.n) * (1 << problem.n)
    if many > MOST_CORNERS:
        raise TooMany(many, MOST_CORNERS)
    node = Node(problem)
    first = None
    for chosen in held_sets(node):
        for corner in corners_of(made_holding(node, chosen)):
            if is_feasible(problem, corner) and (first is None or compare(problem, corner, first) < 0):
                first = corner
    return first
