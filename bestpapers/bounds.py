"""How great the figures of a told point can be."""

from math import factorial

from bestpapers.nodes import Node
from bestpapers.wholeitems import WholeItems


def whole_numbers(problem):
    """Return all numbers of the items and their ends, made whole item by item."""
    wholes = WholeItems(Node(problem))
    numbers = []
    for row, box in zip(wholes.rows, wholes.boxes):
        numbers.extend(row)
        numbers.extend([end for end in box if end is not None])
    return numbers


def figure_bound(problem):
    """Return an integer that no figure of the told point exceeds."""
    greatest = 0
    for number in whole_numbers(problem):
        if abs(number) > greatest:
            greatest = abs(number)
    bound = factorial(problem.n)
    for _ in range(problem.n):
        bound = bound * greatest
    return bound
