"""The forms of papers: whether they fit a problem, and what they consist of."""

from bestpapers.fracs import as_frac
from bestpapers.problems import has_whole


def papers_inside(paper):
    """Return the list of the papers that stand directly inside a paper."""
    if paper[0] == "branch":
        return [paper[3], paper[4]]
    if paper[0] == "derive":
        return [paper[4]]
    return []


def is_roundable(problem, coefficients):
    """Tell whether whole variables alone have coefficients, all of them whole."""
    for variable, number in zip(problem.variables, coefficients):
        if number and not (variable.whole and as_frac(number).is_whole):
            return False
    return True


def lines_fit(problem, lines, many):
    """Tell whether the lines of a "floors" have as many numbers as they must."""
    if len(lines) > len(problem.aims) + problem.n:
        return False
    for at, (multipliers, prices) in enumerate(lines):
        if len(multipliers) != at or len(prices) != many:
            return False
    return True


def row_fits(problem, coefficients, reason, many):
    """Tell whether a derived row and its reason fit, with this many prices."""
    if len(coefficients) != problem.n:
        return False
    if reason[0] == "split":
        _, variable, _, low_prices, high_prices = reason
        return has_whole(problem, variable) and len(low_prices) == len(high_prices) == many
    if reason[0] == "rounded" and not is_roundable(problem, coefficients):
        return False
    return len(reason[1]) == many


def form_fits(problem, paper, many):
    """Tell whether a paper fits, apart from the papers inside it."""
    if paper[0] == "empty":
        return len(paper[1]) == many
    if paper[0] == "floors":
        return lines_fit(problem, paper[1], many)
    if paper[0] == "branch":
        return has_whole(problem, paper[1])
    if paper[0] == "derive":
        return row_fits(problem, paper[1], paper[3], many)
    return True


def fits(problem, paper):
    """Tell whether a paper fits a problem in all its parts."""
    waiting = [(paper, problem.m)]
    while waiting:
        part, many = waiting.pop()
        if not form_fits(problem, part, many):
            return False
        below = many + 1 if part[0] == "derive" else many
        waiting.extend([(inner, below) for inner in papers_inside(part)])
    return True


def paper_nodes(paper):
    """Yield (depth, word) for each node of a paper, each before those inside it."""
    waiting = [(0, paper)]
    while waiting:
        depth, part = waiting.pop()
        yield depth, part[0]
        inside = papers_inside(part)
        waiting.extend([(depth + 1, inner) for inner in inside[::-1]])


def paper_counts(paper):
    """Return how many nodes of each form a paper has, a dict."""
    counts = {"empty": 0, "floors": 0, "branch": 0, "derive": 0, "listed": 0}
    for _, word in paper_nodes(paper):
        counts[word] = counts[word] + 1
    return counts


def paper_depth(paper):
    """Return the greatest depth of the nodes of a paper."""
    greatest = 0
    for depth, _ in paper_nodes(paper):
        if depth > greatest:
            greatest = depth
    return greatest
