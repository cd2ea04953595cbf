"""Runs from a feasible corner to better ones."""

from bestpapers.changes import relaxed
from bestpapers.fracs import Frac
from bestpapers.holdings import made_holding
from bestpapers.margins import Margins, plus
from bestpapers.nodes import Node
from bestpapers.points import is_feasible
from bestpapers.refusals import BadHeld, BadSides, NotFeasible

TURNS = {"low": 1, "high": -1}


class Climb:
    """The held sets and sides of a run, its last point, and the ray on which it ended."""

    def __init__(self, path, point, ray, stage):
        self.path = path
        self.point = point
        self.ray = ray
        self.stage = stage


class Stand:
    """Where a run stands: held items at ends of their widened boxes; it never changes."""

    def __init__(self, holding, sides, margins):
        self.holding = holding
        self.sides = sides
        self.margins = margins

    def bare_corner(self):
        """Return the corner without margins."""
        wholes = self.holding.wholes
        pairs = zip(self.holding.chosen, self.sides)
        ends = [wholes.boxes[at][0 if side == "low" else 1] for at, side in pairs]
        base = self.holding.inverse.base
        return tuple([Frac(number, base) for number in self.holding.inverse.solved(ends)])

    def amount(self, shares):
        """Return the value of an item with these shares, with margins, times the base."""
        total = [0 for _ in self.margins.places] + [0]
        for at, side, share in zip(self.holding.chosen, self.sides, shares):
            if share:
                total = plus(total, share, self.margins.end(at, side))
        return total

    def leading(self, place):
        """Return (stage, number) of the first number that is not zero in a column."""
        stage = 0
        while not self.holding.stage_shares(stage)[place]:
            stage += 1
        return (stage, self.holding.stage_shares(stage)[place])

    def wrong(self):
        """Return (stage, place) of the held item that is to be moved, or None."""
        found = None
        for place, side in enumerate(self.sides):
            if self.holding.wholes.is_fixed(self.holding.chosen[place]):
                continue
            stage, number = self.leading(place)
            if number * TURNS[side] < 0 and (found is None or stage < found[0]):
                found = (stage, place)
        return found

    def room(self, at, place):
        """Return (room, rate, side): how far an item is from the end to which it moves.

        The item of the place moves into its box; None if nothing stops the item at.
        """
        shares = self.holding.shares(at)
        rate = shares[place] * TURNS[self.sides[place]]
        side = "high" if rate > 0 else "low"
        end = self.margins.end(at, side)
        if not rate or end is None:
            return None
        room = plus([self.holding.inverse.base * number for number in end], -1, self.amount(shares))
        return ([-number for number in room] if rate < 0 else room, abs(rate), side)

    def stop(self, place):
        """Return (item, side) of the first end that stops the item of a place, or None."""
        found = None
        least = ([], 1)
        for at in range(self.holding.node.size):
            told = self.room(at, place)
            if told is None:
                continue
            room, rate, side = told
            if found is None or [a * least[1] for a in room] < [a * rate for a in least[0]]:
                found = (at, side)
                least = (room, rate)
        return found

    def moved(self, place, into, side):
        """Return the stand in which an item is held, at a side, in the place of another one."""
        out = self.holding.chosen[place]
        sides = dict(zip(self.holding.chosen, self.sides))
        sides[into] = side
        holding = self.holding if into == out else self.holding.exchanged(out, into)
        return Stand(holding, tuple([sides[at] for at in holding.chosen]), self.margins)

    def drift(self, place):
        """Return how the variables change while the item of a place moves by 1 into its box."""
        scale = self.holding.wholes.scales[self.holding.chosen[place]]
        turn = TURNS[self.sides[place]] * scale
        grid = self.holding.inverse.grid
        return tuple([Frac(turn * line[place], self.holding.inverse.base) for line in grid])


def check_sides(holding, sides):
    """Raise BadSides unless each held item has an end at its side."""
    if len(sides) != len(holding.chosen):
        raise BadSides(sides)
    for at, side in zip(holding.chosen, sides):
        if side not in TURNS or holding.wholes.boxes[at][0 if side == "low" else 1] is None:
            raise BadSides(sides)


def first_stand(problem, chosen, sides):
    """Return the stand at which a run begins."""
    if any([first >= second for first, second in zip(chosen, chosen[1:])]):
        raise BadHeld(chosen)
    holding = made_holding(Node(problem), chosen)
    check_sides(holding, sides)
    stand = Stand(holding, tuple(sides), Margins(holding.wholes, holding.chosen))
    if not is_feasible(relaxed(problem), stand.bare_corner()):
        raise NotFeasible()
    return stand


def below_run(problem, chosen, sides):
    """Return the climb from a feasible corner to the first one, or to a ray."""
    stand = first_stand(problem, chosen, sides)
    path = [(stand.holding.chosen, stand.sides)]
    wrong = stand.wrong()
    while wrong is not None:
        stage, place = wrong
        stop = stand.stop(place)
        if stop is None:
            return Climb(tuple(path), stand.bare_corner(), stand.drift(place), stage)
        into, side = stop
        stand = stand.moved(place, into, side)
        path.append((stand.holding.chosen, stand.sides))
        wrong = stand.wrong()
    return Climb(tuple(path), stand.bare_corner(), None, None)
