"""Heads: papers without the papers inside them, and papers put together from these."""

from bestpapers.fracs import as_frac
from bestpapers.vectors import as_fracs

# How many papers stand directly inside a paper.
INSIDE = {"empty": 0, "floors": 0, "branch": 2, "derive": 1, "listed": 0}


def head_of(paper):
    """Return a paper without the papers inside it."""
    return paper[:len(paper) - INSIDE[paper[0]]]


def assembled(heads):
    """Return the paper of a list of heads, each of which stands before those inside it."""
    done = []
    for head in heads[::-1]:
        inside = [done.pop() for _ in range(INSIDE[head[0]])]
        done.append(head + tuple(inside))
    return done[0]


def repriced_reason(reason, change):
    """Return a reason with each of its tuples of prices changed by a function."""
    if reason[0] == "split":
        _, variable, k, low_prices, high_prices = reason
        return ("split", variable, k, change(low_prices), change(high_prices))
    return (reason[0], change(reason[1]))


def repriced(head, change):
    """Return a head with its numbers as Fracs, and its tuples of prices changed by a function."""
    if head[0] == "empty":
        return ("empty", change(head[1]))
    if head[0] == "floors":
        lines = [(as_fracs(multipliers), change(prices)) for multipliers, prices in head[1]]
        return ("floors", tuple(lines))
    if head[0] == "derive":
        _, coefficients, right, reason = head
        changed = repriced_reason(reason, change)
        return ("derive", as_fracs(coefficients), as_frac(right), changed)
    return head
