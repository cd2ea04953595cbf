"""What a paper is worth in a problem for which it need not have been made."""

from bestpapers.errors import NoAim, Unfit
from bestpapers.fracs import as_frac
from bestpapers.halves import half_boxes, is_crossed
from bestpapers.nodes import Node, made_node
from bestpapers.paperforms import fits
from bestpapers.stages import stage_constants, stage_rows
from bestpapers.vectors import zeros


def lesser(left, right):
    """Return the lesser worth: None is less than all numbers, "empty" is greater."""
    if left is None or right == "empty":
        return left
    if right is None or left == "empty":
        return right
    return left if left < right else right


def halves_of(node, variable, k):
    """Return the low and the high half of a node; a box of theirs may be crossed."""
    pair = half_boxes(node.boxes, variable, k)
    return [made_node(node.problem, boxes, node.extra) for boxes in pair]


def half_floor(half, variable, coefficients, prices):
    """Return the floor of a row in a half, "empty" if its box is crossed."""
    if is_crossed(half.boxes[variable]):
        return "empty"
    return half.floor(coefficients, 0, prices)


def shown_right(node, coefficients, reason):
    """Return the right side that a reason shows for a row in a node, or None."""
    if reason[0] == "split":
        _, variable, k, low_prices, high_prices = reason
        low, high = halves_of(node, variable, k)
        return lesser(half_floor(low, variable, coefficients, low_prices),
                      half_floor(high, variable, coefficients, high_prices))
    bound = node.floor(coefficients, 0, reason[1])
    if reason[0] == "rounded" and bound is not None:
        return as_frac(bound.ceiling())
    return bound


def leaf_worth(node, paper):
    """Return the worth of a paper that has no papers inside it."""
    problem = node.problem
    if paper[0] == "empty":
        bound = node.floor(zeros(problem.n), 0, paper[1])
        return "empty" if bound is not None and bound > 0 else None
    if paper[0] == "floors" and paper[1]:
        return node.floor(stage_rows(problem)[0], stage_constants(problem)[0], paper[1][0][1])
    return None


def least_worth(problem, paper):
    """Return the least worth of the parts of a paper, as if the first aim were a "min"."""
    least = "empty"
    waiting = [(Node(problem), paper)]
    while waiting and least is not None:
        node, part = waiting.pop()
        if any([is_crossed(box) for box in node.boxes]):
            continue
        if part[0] == "branch":
            low, high = halves_of(node, part[1], part[2])
            waiting.extend([(low, part[3]), (high, part[4])])
        elif part[0] == "derive":
            row = (part[1], shown_right(node, part[1], part[3]))
            below = made_node(problem, node.boxes, node.extra + (row,))
            waiting.append((below, part[4]))
        else:
            least = lesser(least, leaf_worth(node, part))
    return least


def worth(problem, paper):
    """Return what a paper shows about the first aim: None, "empty" or a number."""
    if not problem.aims:
        raise NoAim(0)
    if not fits(problem, paper):
        raise Unfit()
    least = least_worth(problem, paper)
    if least is None or least == "empty" or problem.aims[0].sense == "min":
        return least
    return -least
