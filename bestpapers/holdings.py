"""Holdings: what a table is at its heart, reckoned in integers alone."""

from bestpapers.inverses import inverse_of
from bestpapers.refusals import BadHeld, Dependent
from bestpapers.scaling import whole_dot
from bestpapers.wholeitems import WholeItems


def check_chosen(node, chosen):
    """Raise BadHeld unless n different items of a node are chosen."""
    seen = {}
    for at in chosen:
        if at < 0 or at >= node.size or at in seen:
            raise BadHeld(chosen)
        seen[at] = True
    if len(seen) != node.problem.n:
        raise BadHeld(chosen)


def made_holding(node, chosen):
    """Return the holding of a held set, passed in any order; raises the errors of a table."""
    check_chosen(node, chosen)
    wholes = WholeItems(node)
    held = tuple(sorted([int(at) for at in chosen]))
    try:
        inverse = inverse_of([wholes.rows[at] for at in held])
    except Dependent as error:
        raise Dependent(held[error.at]) from None
    return Holding(node, wholes, held, inverse)


class Holding:
    """The held items of a node, the corner that they make, and where it lies outside.

    An amount is a pair (far, plain), multiplied by the scale of its item and by the
    base of the inverse. What is found out is kept, but nothing that it tells changes.
    """

    def __init__(self, node, wholes, chosen, inverse):
        self.node = node
        self.wholes = wholes
        self.chosen = chosen
        self.inverse = inverse
        self._stages = []
        self._sides = None
        self._corner = None

    def shares(self, at):
        """Return the coordinates of an item, times its scale and the base."""
        return self.inverse.shares(self.wholes.rows[at])

    def stage_shares(self, stage):
        """Return the coordinates of a stage, times its scale and the base."""
        while len(self._stages) <= stage:
            row = self.wholes.stages[len(self._stages)]
            self._stages.append(self.inverse.shares(row))
        return self._stages[stage]

    def held_sides(self):
        """Return the tuple of the sides of the held items."""
        if self._sides is None:
            signs = [0] * len(self.chosen)
            stage = 0
            while 0 in signs:
                signs = [sign or share for sign, share in zip(signs, self.stage_shares(stage))]
                stage += 1
            self._sides = tuple(["low" if sign > 0 else "high" for sign in signs])
        return self._sides

    def end(self, at, side):
        """Return the end of an item at a side, a pair that is not multiplied by the base."""
        low, high = self.wholes.boxes[at]
        end = low if side == "low" else high
        if end is not None:
            return (0, end)
        scale = self.wholes.scales[at]
        return (-scale if side == "low" else scale, 0)

    def corner(self):
        """Return two lists, the far and the plain parts of the corner, times the base."""
        if self._corner is None:
            ends = [self.end(at, side) for at, side in zip(self.chosen, self.held_sides())]
            far = self.inverse.solved([end[0] for end in ends])
            self._corner = (far, self.inverse.solved([end[1] for end in ends]))
        return self._corner

    def amount(self, row):
        """Return the amount of a row of integers at the corner."""
        far, plain = self.corner()
        return (whole_dot(row, far), whole_dot(row, plain))

    def miss(self, at):
        """Return -1 if an item is below its box at the corner, 1 if it is above, otherwise 0."""
        if at in self.chosen:
            return 0
        amount = self.amount(self.wholes.rows[at])
        base = self.inverse.base
        far, plain = self.end(at, "low")
        if amount < (far * base, plain * base):
            return -1
        far, plain = self.end(at, "high")
        return 1 if amount > (far * base, plain * base) else 0

    def outside(self):
        """Return the least item that is outside its box at the corner, or None."""
        for at in range(self.node.size):
            if self.miss(at):
                return at
        return None

    def helping(self, at, shares):
        """Return the places in chosen of the held items that can help an item."""
        miss = self.miss(at)
        found = []
        for place, side in enumerate(self.held_sides()):
            lifting = shares[place] if side == "low" else -shares[place]
            if lifting * miss < 0 and not self.wholes.is_fixed(self.chosen[place]):
                found.append(place)
        return found

    def helpers(self, at):
        """Return the ascending tuple of the held items that can help an item."""
        return tuple([self.chosen[place] for place in self.helping(at, self.shares(at))])

    def best_helper(self, at):
        """Return the helper that costs least, or None if there is none."""
        shares = self.shares(at)
        rivals = self.helping(at, shares)
        if not rivals:
            return None
        stage = 0
        while len(rivals) > 1:
            rivals = self.cheapest(rivals, shares, stage)
            stage += 1
        return self.chosen[rivals[0]]

    def cheapest(self, rivals, shares, stage):
        """Return the rivals whose cost in a stage, for one unit of help, is least."""
        costs = self.stage_shares(stage)
        found = []
        least = (0, 1)
        for place in rivals:
            cost = costs[place] if self.held_sides()[place] == "low" else -costs[place]
            help_of = abs(shares[place])
            more = cost * least[1] - least[0] * help_of
            if not found or more < 0:
                found = [place]
                least = (cost, help_of)
            elif more == 0:
                found.append(place)
        return found

    def exchanged(self, out, into):
        """Return the holding in which one item is held instead of another, or None.

        None says that the new items are not independent.
        """
        place = self.chosen.index(out)
        shares = self.shares(into)
        if not shares[place]:
            return None
        rest = [at for at in self.chosen if at != out]
        end = len([at for at in rest if at < into])
        chosen = tuple(rest[:end] + [into] + rest[end:])
        inverse = self.inverse.replaced(place, shares).moved(place, end)
        return Holding(self.node, self.wholes, chosen, inverse)

    def inside(self, node):
        """Return the holding of the same items in a node made by a half or a derived row."""
        return Holding(node, WholeItems(node), self.chosen, self.inverse)
