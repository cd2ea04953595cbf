"""Papers that are accepted, with every form and reason, for problems that are all whole."""

from bestpapers.fracs import Frac
from bestpapers.judging import shows
from bestpapers.nodes import Node
from bestpapers.paperforms import papers_inside
from bestpapers.points import is_feasible
from bestpapers.stages import stage_vector

HALF = Frac(1, 2)


def some_prices(chance, node):
    """Prices that mostly have the right signs."""
    signs = [{"<=": -1, ">=": 1, "=": chance.choice((1, -1))}[row.sense] for row in node.problem]
    signs += [1] * len(node.extra)
    return tuple(sign * chance.choice((0, 0, 1, HALF, Frac(1, 3))) for sign in signs)


def some_reason(chance, node, coefficients):
    """A derived row's right side and reason that are accepted in a node, or None."""
    form = chance.choice(("added", "rounded", "split", "split"))
    if form == "split":
        at = chance.randrange(node.problem.n)
        low, high = node.boxes[at]
        if low == high:
            return None
        k = chance.randint(low.num, high.num - 1)
        halves = [node.half(at, k, side) for side in ("low", "high")]
        pair = tuple(some_prices(chance, half) for half in halves)
        bounds = [half.floor(coefficients, 0, prices) for half, prices in zip(halves, pair)]
        return None if None in bounds else (min(bounds), ("split", at, k) + pair)
    prices = some_prices(chance, node)
    bound = node.floor(coefficients, 0, prices)
    if bound is None:
        return None
    return (bound.ceiling() if form == "rounded" else bound), (form, prices)


def leaf(chance, node, targets):
    """A leaf for a node that holds one point alone; derived rows are used where they can be."""
    problem = node.problem
    point = [low for low, _ in node.boxes]
    none = [0] * (problem.m + len(node.extra))
    for at, (coefficients, right) in enumerate(node.extra):
        if sum(a * x for a, x in zip(coefficients, point)) < right:
            none[problem.m + at] = chance.choice((1, 2, HALF))
            return ("empty", tuple(none))
    for at, row in enumerate(problem):
        if not row(point):
            none[at] = -1 if row.amount(point) > row.right else 1
            return ("empty", tuple(none))
    if not is_feasible(problem, point) or targets is None:
        return ("listed", -1)
    many = 0
    for number, target in zip(stage_vector(problem, point), targets):
        many += 1
        if number > target:
            break
    return ("floors", tuple(((0,) * at, tuple(none)) for at in range(many)))


def mixed_paper(chance, node, targets, most=4):
    """A paper that halves a node until each leaf holds one point, with derived rows between."""
    if most and chance.randint(0, 2) == 0:
        coefficients = tuple(chance.randint(-2, 2) for _ in range(node.problem.n))
        found = some_reason(chance, node, coefficients)
        if found:
            right, reason = found
            inside = mixed_paper(chance, node.derived(coefficients, right), targets, most - 1)
            return ("derive", coefficients, right, reason, inside)
    wide = [at for at, (low, high) in enumerate(node.boxes) if low < high]
    if not wide:
        return leaf(chance, node, targets)
    at = chance.choice(wide)
    low, high = node.boxes[at]
    k = chance.randint(low.num, high.num - 1)
    return ("branch", at, k, mixed_paper(chance, node.half(at, k, "low"), targets, most),
            mixed_paper(chance, node.half(at, k, "high"), targets, most))


def accepted_paper(chance, problem, points):
    """Targets and a mixed paper that shows them; points are the feasible ones in order."""
    targets = stage_vector(problem, points[0]) if points else None
    paper = mixed_paper(chance, Node(problem), targets)
    if not shows(problem, targets, paper):
        raise ValueError("not accepted: " + repr(paper))
    return targets, paper


def reasons_in(paper):
    """The forms of all nodes of a paper, with the words of reasons in the place of "derive"."""
    found = [paper[3][0] if paper[0] == "derive" else paper[0]]
    for inner in papers_inside(paper):
        found += reasons_in(inner)
    return found


def numbers_in(paper):
    """The integers and the numbers of a paper, as two lists."""
    if paper[0] == "empty":
        return [], list(paper[1])
    if paper[0] == "floors":
        return [], [number for line in paper[1] for row in line for number in row]
    if paper[0] == "listed":
        return [paper[1]], []
    whole, numbers = (list(paper[1:3]), []) if paper[0] == "branch" else ([], [*paper[1], paper[2]])
    if paper[0] == "derive":
        reason = paper[3]
        whole += list(reason[1:3]) if reason[0] == "split" else []
        rows = reason[3:] if reason[0] == "split" else reason[1:]
        numbers += [number for row in rows for number in row]
    for inner in papers_inside(paper):
        more, others = numbers_in(inner)
        whole, numbers = whole + more, numbers + others
    return whole, numbers
