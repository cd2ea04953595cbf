"""Cuts: derived rows that whole numbers satisfy, with their reasons."""

from bestpapers.checks import check_width
from bestpapers.floors import priced_rows
from bestpapers.fracs import Frac
from bestpapers.pricing import prices_at
from bestpapers.problems import has_whole
from bestpapers.refusals import NoCut, NoFloor, NotEnded
from bestpapers.vectors import as_fracs, dot, reduced, zeros


def fraction_at(table, variable):
    """Return the value at the corner of a whole variable that is not whole there."""
    corner = table.corner()
    if table.outside() is not None or any([bool(tall.parts[0]) for tall in corner]):
        raise NotEnded()
    if not has_whole(table.node.problem, variable) or corner[variable].parts[1].is_whole:
        raise NoCut(variable)
    return corner[variable].parts[1]


def split_factor(table, at, t, f):
    """Return how often the row of a held item is needed in the cut, with the sign of its side."""
    s = 1 if table.side(at) == "low" else -1
    if table.holding.wholes.is_fixed(at) or not t:
        return Frac(0)
    if t * s < 0:
        return -t.over(f)
    return t.over(1 - f)


def split_cut(table, variable):
    """Return (coefficients, right, reason) of the row that cuts off the corner of a table."""
    value = fraction_at(table, variable)
    k = value.floor()
    f = value - k
    node = table.node
    entry = table.entry(variable)
    factors = [split_factor(table, at, t, f) for at, t in zip(table.chosen, entry)]
    coefficients = zeros(node.problem.n)
    right = Frac(1)
    for at, factor in zip(table.chosen, factors):
        if factor:
            coefficients = reduced(coefficients, -factor, node.row_of(at))
            right = right + factor * table.end(at).parts[1]
    low = [factor + t.over(f) for factor, t in zip(factors, entry)]
    high = [factor - t.over(1 - f) for factor, t in zip(factors, entry)]
    low_prices = prices_at(node, table.chosen, low)
    high_prices = prices_at(node, table.chosen, high)
    return (coefficients, right, ("split", variable, k, low_prices, high_prices))


def rounded_row(node, prices):
    """Return the row of the sums of price times coefficient, rounded up, 0 where nothing is whole."""
    total = zeros(node.problem.n)
    for price, (coefficients, _, _) in zip(prices, priced_rows(node.problem, node.extra)):
        total = reduced(total, -price, coefficients)
    pairs = zip(total, node.problem.variables)
    return tuple([Frac(number.ceiling() if variable.whole else 0) for number, variable in pairs])


def rounded_cut(node, prices):
    """Return (coefficients, right, reason) of the row that prices make, rounded up."""
    check_width(len(prices), node.problem.m + len(node.extra))
    row = rounded_row(node, prices)
    bound = node.floor(row, 0, prices)
    if bound is None:
        raise NoFloor()
    return (row, Frac(bound.ceiling()), ("rounded", as_fracs(prices)))
