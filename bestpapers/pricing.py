"""Prices at the rows and derived rows of a node."""

from bestpapers.vectors import zeros


def prices_at(node, items, numbers):
    """Return the prices that are a number at each of some items, if it is a row, and 0 elsewhere."""
    n = node.problem.n
    prices = list(zeros(node.size - n))
    for at, number in zip(items, numbers):
        if at >= n:
            prices[at - n] = number
    return tuple(prices)
