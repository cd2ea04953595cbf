"""What papers show: the rules by which they are accepted."""

from bestpapers.checks import check_count
from bestpapers.fracs import Frac
from bestpapers.nodes import Node, can_split
from bestpapers.paperforms import fits
from bestpapers.stages import stage_constants, stage_rows
from bestpapers.vectors import reduced, zeros


def reaches(bound, number):
    """Tell whether a bound is there and at least a number."""
    return bound is not None and bound >= number


def shows_empty(node, prices):
    """Tell whether prices show that a node has no feasible point."""
    bound = node.floor(zeros(node.problem.n), 0, prices)
    return bound is not None and bound > 0


def shown_number(node, targets, stages, line):
    """Return the number that a line of a "floors" shows, or None."""
    multipliers, prices = line
    at = len(multipliers)
    row, constant = stages[at]
    shown = Frac(0)
    for u, target, (other_row, other_constant) in zip(multipliers, targets, stages):
        if u:
            row = reduced(row, u, other_row)
            constant = constant - u * other_constant
            shown = shown + u * target
    bound = node.floor(row, constant, prices)
    if bound is None:
        return None
    return shown + bound


def shows_floors(node, targets, stages, lines):
    """Tell whether the lines of a "floors" show that no point comes before targets."""
    if targets is None or len(lines) > len(targets):
        return False
    greater = False
    for line, target in zip(lines, targets):
        shown = shown_number(node, targets, stages, line)
        if not reaches(shown, target):
            return False
        greater = shown > target
    # Stages behind the last line matter only where all lines show their targets.
    return greater or len(lines) == len(targets)


def shows_row(node, coefficients, right, reason):
    """Tell whether a reason shows that a derived row holds in a node."""
    if reason[0] != "split":
        bound = node.floor(coefficients, 0, reason[1])
        if reason[0] == "rounded" and bound is not None:
            bound = bound.ceiling()
        return reaches(bound, right)
    _, variable, k, low_prices, high_prices = reason
    if not can_split(node, variable, k):
        return False
    low = node.half(variable, k, "low").floor(coefficients, 0, low_prices)
    high = node.half(variable, k, "high").floor(coefficients, 0, high_prices)
    return reaches(low, right) and reaches(high, right)


def is_listed(node, points, index):
    """Tell whether the boxes of a node are the point with an index alone."""
    if index < 0 or index >= len(points):
        return False
    pairs = zip(node.boxes, points[index])
    return all([low == high and low == number for (low, high), number in pairs])


def is_accepted(node, targets, stages, points, paper):
    """Tell whether a paper is accepted in a node, apart from the papers inside it."""
    if paper[0] == "empty":
        return shows_empty(node, paper[1])
    if paper[0] == "floors":
        return shows_floors(node, targets, stages, paper[1])
    if paper[0] == "branch":
        return can_split(node, paper[1], paper[2])
    if paper[0] == "derive":
        return shows_row(node, paper[1], paper[2], paper[3])
    return is_listed(node, points, paper[1])


def nodes_inside(node, paper):
    """Return the papers inside a paper, each with the node in which it must hold."""
    if paper[0] == "branch":
        _, variable, k, low_paper, high_paper = paper
        low = node.half(variable, k, "low")
        return [(low, low_paper), (node.half(variable, k, "high"), high_paper)]
    if paper[0] == "derive":
        return [(node.derived(paper[1], paper[2]), paper[4])]
    return []


def accepts(problem, targets, points, paper):
    """Tell whether a paper fits and is accepted, with points that it may list."""
    if not fits(problem, paper):
        return False
    stages = list(zip(stage_rows(problem), stage_constants(problem)))
    waiting = [(Node(problem), paper)]
    while waiting:
        node, part = waiting.pop()
        if not is_accepted(node, targets, stages, points, part):
            return False
        waiting.extend(nodes_inside(node, part))
    return True


def shows(problem, targets, paper):
    """Tell whether a paper shows that no feasible point comes before targets."""
    if targets is not None:
        check_count("targets", len(targets), 0, len(problem.aims) + problem.n)
    return accepts(problem, targets, (), paper)
