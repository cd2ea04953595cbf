"""The search for the told point of a problem: runs in halves, until each half is done."""

from bestpapers.cuts import split_cut
from bestpapers.dual import stuck_prices, walked
from bestpapers.floorlines import floor_lines
from bestpapers.fracs import Frac
from bestpapers.heads import assembled
from bestpapers.scaling import whole_dot
from bestpapers.tables import Table


def plain_corner(holding):
    """Return the corner of a holding that is held at no missing end."""
    _, plain = holding.corner()
    return tuple([Frac(number, holding.inverse.base) for number in plain])


def first_broken(problem, point):
    """Return the index of the first whole variable that is not whole at a point, or None."""
    for at, variable in enumerate(problem.variables):
        if variable.whole and not point[at].is_whole:
            return at
    return None


class Part:
    """A node of the search, how the run in it ended, and then the place of its halves.

    A part that holds one point alone may have the index at which the point is listed.
    """

    def __init__(self, holding, stuck):
        self.holding = holding
        self.stuck = stuck
        self.place = None
        self.halves = ()
        self.listed = None
        _, plain = holding.corner()
        sums = [whole_dot(row, plain) for row in holding.wholes.stages]
        # Stages with their scales, without their constants: they compare as vectors do.
        self.rank = tuple([Frac(number, holding.inverse.base) for number in sums])

    def half(self, variable, k, side):
        """Return the part of a half, in which the run goes on from where it ended here."""
        node = self.holding.node.half(variable, k, side)
        _, holding, stuck = walked(self.holding.inside(node))
        return Part(holding, stuck)

    def halve(self, variable, k):
        """Find the low and the high half at k of a whole variable."""
        self.place = (variable, k)
        self.halves = tuple([self.half(variable, k, side) for side in ("low", "high")])


def explored(root):
    """Halve a part until each half is done; return the part of the told point, or None."""
    best = None
    waiting = [root]
    while waiting:
        part = waiting.pop()
        if part.stuck is not None or (best is not None and part.rank >= best.rank):
            continue
        point = plain_corner(part.holding)
        variable = first_broken(part.holding.node.problem, point)
        if variable is None:
            best = part
            continue
        part.halve(variable, point[variable].floor())
        low, high = part.halves
        # The half that may hold the better points is looked at first.
        waiting.extend([low, high] if high.rank < low.rank else [high, low])
    return best


def lines_needed(part, best, most):
    """Return how many lines show that a part holds nothing before the best part."""
    for stage, (number, other) in enumerate(zip(part.rank[:most], best.rank)):
        if number > other:
            return stage + 1
    return most


def part_head(part, best, most):
    """Return the head of the paper of a part."""
    if part.listed is not None:
        return ("listed", part.listed)
    if part.place is not None:
        variable, k = part.place
        return ("branch", variable, k)
    table = Table(part.holding.node, part.holding.chosen)
    if part.stuck is not None:
        return ("empty", stuck_prices(table, part.stuck))
    return ("floors", floor_lines(table, lines_needed(part, best, most)))


def tree_heads(root, best, most):
    """Return the heads of the papers of all parts, where lines go up to the first stages."""
    heads = []
    waiting = [root]
    while waiting:
        part = waiting.pop()
        heads.append(part_head(part, best, most))
        waiting.extend(part.halves[::-1])
    return heads


def cut_root(holding, stuck, cuts):
    """Return (heads, part): the derived rows that cut off corners, and where they lead."""
    heads = []
    for _ in range(cuts):
        if stuck is not None:
            break
        variable = first_broken(holding.node.problem, plain_corner(holding))
        if variable is None:
            break
        table = Table(holding.node, holding.chosen)
        coefficients, right, reason = split_cut(table, variable)
        heads.append(("derive", coefficients, right, reason))
        node = holding.node.derived(coefficients, right)
        _, holding, stuck = walked(holding.inside(node))
    return (heads, Part(holding, stuck))


def searched(holding, stuck, cuts, most):
    """Return (point, paper) from the end of a run; the point is None if there is none.

    The paper shows the first numbers, as many as most says, of the point's stage vector.
    """
    heads, root = cut_root(holding, stuck, cuts)
    best = explored(root)
    paper = assembled(heads + tree_heads(root, best, most))
    if best is None:
        return (None, paper)
    return (plain_corner(best.holding), paper)
