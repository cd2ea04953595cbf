"""How far right sides and coefficients of aims may move while a held set stays what it is."""

from bestpapers.errors import NoAim
from bestpapers.fracs import Frac
from bestpapers.problems import place_of
from bestpapers.refusals import NotEnded
from bestpapers.vectors import zeros


class Bounds:
    """The greatest low and the least high bound that were told; None for no bound."""

    def __init__(self):
        self.low = None
        self.high = None

    def tell(self, room, rate):
        """Take in that an amount must satisfy: rate times the amount is at most room."""
        if not rate:
            return
        bound = room.over(rate)
        if rate > 0 and (self.high is None or bound < self.high):
            self.high = bound
        if rate < 0 and (self.low is None or bound > self.low):
            self.low = bound

    def pair(self):
        """Return the pair of the bounds."""
        return (self.low, self.high)


def row_item(table, name):
    """Return the item of the row of this name."""
    problem = table.node.problem
    return problem.n + place_of(problem.rows, name)


def is_far(table):
    """Tell whether the corner of a table is not a point."""
    return any([bool(tall.parts[0]) for tall in table.corner()])


def held_range(table, moved):
    """Return how far the end of a held item may move, so that no other item leaves its box."""
    bounds = Bounds()
    place = table.chosen.index(moved)
    for at in range(table.node.size):
        if at in table.chosen:
            continue
        rate = table.entry(at)[place]
        value = table.value(at).parts[1]
        low, high = table.node.box_of(at)
        if high is not None:
            bounds.tell(high - value, rate)
        if low is not None:
            bounds.tell(value - low, -rate)
    return bounds.pair()


def free_range(table, moved):
    """Return how far the ends of an item that is not held may move, so that it stays inside."""
    bounds = Bounds()
    value = table.value(moved).parts[1]
    low, high = table.node.box_of(moved)
    if high is not None:
        bounds.tell(high - value, Frac(-1))
    if low is not None:
        bounds.tell(value - low, Frac(1))
    return bounds.pair()


def right_range(table, name):
    """Return (low, high): how far the right side of a row may move, so that no item is outside."""
    moved = row_item(table, name)
    if table.outside() is not None or is_far(table):
        raise NotEnded()
    if moved in table.chosen:
        return held_range(table, moved)
    return free_range(table, moved)


def row_prices(table, name):
    """Return what a unit of the right side of a row changes in each aim."""
    moved = row_item(table, name)
    aims = table.node.problem.aims
    if moved not in table.chosen or table.end(moved).parts[0]:
        return zeros(len(aims))
    place = table.chosen.index(moved)
    prices = [table.stage_entry(stage)[place] for stage in range(len(aims))]
    return tuple([price if aim.sense == "min" else -price for price, aim in zip(prices, aims)])


def aim_range(table, aim, name):
    """Return (low, high): how far a coefficient of an aim may move, so that all sides stay."""
    problem = table.node.problem
    if aim < 0 or aim >= len(problem.aims):
        raise NoAim(aim)
    entry = table.entry(place_of(problem.variables, name))
    turn = 1 if problem.aims[aim].sense == "min" else -1
    bounds = Bounds()
    for at, number in zip(table.chosen, entry):
        column = table.column(at)
        # An earlier stage that is not zero decides the side, whatever this aim says.
        if table.holding.wholes.is_fixed(at) or any([bool(earlier) for earlier in column[:aim]]):
            continue
        sign = 1 if table.side(at) == "low" else -1
        bounds.tell(sign * column[aim], -sign * turn * number)
    return bounds.pair()
