"""Papers without their split and added rows."""

from bestpapers.errors import Unfit
from bestpapers.flattening import flattened
from bestpapers.halves import half_boxes, is_crossed
from bestpapers.heads import assembled, head_of
from bestpapers.nodes import Node
from bestpapers.paperforms import fits, papers_inside


def split_of(paper):
    """Return (variable, k, low_paper, high_paper) of a paper that goes on in halves, or None."""
    if paper[0] == "branch":
        return paper[1:]
    if paper[0] != "derive" or paper[3][0] != "split":
        return None
    _, coefficients, right, reason, inner = paper
    _, variable, k, low_prices, high_prices = reason
    low_paper = ("derive", coefficients, right, ("added", low_prices), inner)
    high_paper = ("derive", coefficients, right, ("added", high_prices), inner)
    return (variable, k, low_paper, high_paper)


def unsplit_heads(problem, paper):
    """Return the heads of a paper in which branches stand in the places of splits."""
    heads = []
    waiting = [(Node(problem).boxes, paper)]
    while waiting:
        boxes, part = waiting.pop()
        split = split_of(part)
        if split is None:
            heads.append(head_of(part))
            waiting.extend([(boxes, inner) for inner in papers_inside(part)])
            continue
        variable, k, low_paper, high_paper = split
        halves = list(zip(half_boxes(boxes, variable, k), (low_paper, high_paper)))
        kept = [half for half in halves if not is_crossed(half[0][variable])]
        if len(kept) == 2:
            heads.append(("branch", variable, k))
        waiting.extend(kept[::-1])
    return heads


def unsplit(problem, paper):
    """Return a paper in which branches stand in the places of splits, without added rows."""
    if not fits(problem, paper):
        raise Unfit()
    return flattened(problem, assembled(unsplit_heads(problem, paper)))
