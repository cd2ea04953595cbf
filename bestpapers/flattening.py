"""Papers without their added rows."""

from bestpapers.errors import Unfit
from bestpapers.heads import assembled, head_of, repriced
from bestpapers.paperforms import fits, papers_inside
from bestpapers.vectors import unit_row, zeros


def spread_prices(prices, meanings, wide):
    """Return prices at the rows that are left, from what each row means in terms of them."""
    total = zeros(wide)
    for price, meaning in zip(prices, meanings):
        if price:
            padded = meaning + zeros(wide - len(meaning))
            total = tuple([a + price * b for a, b in zip(total, padded)])
    return total


def is_added(paper):
    """Tell whether a paper begins with an added row."""
    return paper[0] == "derive" and paper[3][0] == "added"


def flattened(problem, paper):
    """Return a paper without its added rows: their prices go to the rows behind them."""
    if not fits(problem, paper):
        raise Unfit()
    meanings = tuple([unit_row(at, problem.m) for at in range(problem.m)])
    heads = []
    waiting = [(paper, meanings, problem.m)]
    while waiting:
        part, meanings, wide = waiting.pop()
        if is_added(part):
            meaning = spread_prices(part[3][1], meanings, wide)
            waiting.append((part[4], meanings + (meaning,), wide))
            continue
        heads.append(changed_head(part, meanings, wide))
        if part[0] == "derive":
            meanings = meanings + (unit_row(wide, wide + 1),)
            wide += 1
        waiting.extend([(inner, meanings, wide) for inner in papers_inside(part)[::-1]])
    return assembled(heads)


def changed_head(paper, meanings, wide):
    """Return the head of a paper with prices at the rows that are left."""
    return repriced(head_of(paper), lambda prices: spread_prices(prices, meanings, wide))
