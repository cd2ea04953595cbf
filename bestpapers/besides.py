"""Papers of two problems, joined to one for the problems side by side."""

from bestpapers.errors import NoAim, Unfit
from bestpapers.heads import assembled, head_of, repriced
from bestpapers.joining import beside
from bestpapers.paperforms import fits, papers_inside
from bestpapers.vectors import as_fracs, zeros


def line_prices(paper):
    """Return the prices of line 0 of a "floors", None if a leaf has no such line."""
    if paper[0] == "floors" and paper[1]:
        return paper[1][0][1]
    return None


def left_head(left, right, paper):
    """Return the head of a paper of the left problem, widened to the joined one."""
    m = left.m
    head = repriced(
        head_of(paper),
        lambda prices: as_fracs(prices[:m]) + zeros(right.m) + as_fracs(prices[m:]),
    )
    if head[0] == "derive":
        return ("derive", head[1] + zeros(right.n), head[2], head[3])
    return head


def right_head(left, right, paper, above):
    """Return the head of a paper of the right problem, below this many rows of the left."""
    m = right.m
    head = repriced(
        head_of(paper),
        lambda prices: zeros(left.m) + as_fracs(prices[:m]) + zeros(above) + as_fracs(prices[m:]),
    )
    if head[0] == "branch":
        return ("branch", left.n + head[1], head[2])
    if head[0] == "derive":
        _, coefficients, number, reason = head
        if reason[0] == "split":
            reason = ("split", left.n + reason[1]) + reason[2:]
        return ("derive", zeros(left.n) + coefficients, number, reason)
    return head


def joined_leaf(left, right, left_leaf, right_leaf):
    """Return the "floors" in which the lines 0 of two leaves are put together."""
    first = line_prices(left_leaf)
    second = line_prices(right_leaf)
    if first is None or second is None:
        return ("floors", ())
    prices = first[:left.m] + second[:right.m] + first[left.m:] + second[right.m:]
    return ("floors", (((), as_fracs(prices)),))


def is_open_leaf(paper):
    """Tell whether another paper goes in the place of a paper."""
    return paper[0] == "floors" or paper[0] == "listed"


def right_heads(left, right, left_leaf, right_paper, above):
    """Return the heads of the right paper where it stands in the place of a leaf."""
    heads = []
    waiting = [right_paper]
    while waiting:
        part = waiting.pop()
        if is_open_leaf(part):
            heads.append(joined_leaf(left, right, left_leaf, part))
        else:
            heads.append(right_head(left, right, part, above))
            waiting.extend(papers_inside(part)[::-1])
    return heads


def beside_papers(left, right, left_paper, right_paper):
    """Return the paper of two papers for the problem of their problems side by side."""
    if not beside(left, right).aims:
        raise NoAim(0)
    if not (fits(left, left_paper) and fits(right, right_paper)):
        raise Unfit()
    heads = []
    waiting = [(left_paper, 0)]
    while waiting:
        part, above = waiting.pop()
        if is_open_leaf(part):
            heads.extend(right_heads(left, right, part, right_paper, above))
            continue
        heads.append(left_head(left, right, part))
        below = above + 1 if part[0] == "derive" else above
        waiting.extend([(inner, below) for inner in papers_inside(part)[::-1]])
    return assembled(heads)
