"""Tables: held sets of a node and the corners that they make."""

from bestpapers.checks import check_width
from bestpapers.errors import NoItem
from bestpapers.fracs import Frac
from bestpapers.holdings import made_holding
from bestpapers.refusals import Dependent, IsHeld, NoStage, NotHeld
from bestpapers.scaling import common_scale, made_whole
from bestpapers.stages import stage_constants, stage_rows
from bestpapers.tall import Tall
from bestpapers.vectors import as_fracs


class Table:
    """A held set of a node; it never changes."""

    def __init__(self, node, chosen):
        self.holding = made_holding(node, chosen)
        self.node = node
        self.chosen = self.holding.chosen

    def coordinates(self, row):
        """Return how often each held row is needed for a row."""
        check_width(len(row), self.node.problem.n)
        numbers = as_fracs(row)
        scale = common_scale(numbers)
        shares = self.holding.inverse.shares(made_whole(numbers, scale))
        base = scale * self.holding.inverse.base
        scales = [self.holding.wholes.scales[at] for at in self.chosen]
        return tuple([Frac(share * own, base) for share, own in zip(shares, scales)])

    def entry(self, at):
        """Return the coordinates of the row of an item."""
        return self.coordinates(self.node.row_of(at))

    def stage_entry(self, stage):
        """Return the coordinates of the row of a stage."""
        rows = stage_rows(self.node.problem)
        if stage < 0 or stage >= len(rows):
            raise NoStage(stage)
        return self.coordinates(rows[stage])

    def column(self, at):
        """Return the numbers of a held item in the coordinates of all stages."""
        place = self._place(at)
        return tuple([self.coordinates(row)[place] for row in stage_rows(self.node.problem)])

    def side(self, at):
        """Return the side at which an item is held, "low" or "high"."""
        return self.holding.held_sides()[self._place(at)]

    def end(self, at):
        """Return the end at which an item is held, a Tall."""
        side = self.side(at)
        low, high = self.node.box_of(at)
        end = low if side == "low" else high
        if end is not None:
            return Tall.plain(end)
        return Tall.far(-1 if side == "low" else 1)

    def corner(self):
        """Return the tuple of the values of the variables at the corner."""
        far, plain = self.holding.corner()
        base = self.holding.inverse.base
        return tuple([Tall((Frac(q, base), Frac(p, base))) for q, p in zip(far, plain)])

    def value(self, at):
        """Return the value of an item at the corner."""
        return self._amount(self.node.row_of(at))

    def vector(self):
        """Return the stage vector of the corner."""
        problem = self.node.problem
        pairs = zip(stage_rows(problem), stage_constants(problem))
        return tuple([self._amount(row) + Tall.plain(constant) for row, constant in pairs])

    def outside(self):
        """Return the least item that is outside its box at the corner, or None."""
        return self.holding.outside()

    def helpers(self, at):
        """Return the ascending tuple of the held items that can help an item."""
        self._check_item(at)
        return self.holding.helpers(at)

    def best_helper(self, at):
        """Return the helper that costs least, or None if there is none."""
        self._check_item(at)
        return self.holding.best_helper(at)

    def exchanged(self, out, into):
        """Return the table in which the item into is held instead of the item out."""
        self._place(out)
        self._check_item(into)
        if into in self.chosen:
            raise IsHeld(into)
        holding = self.holding.exchanged(out, into)
        if holding is None:
            raise Dependent(into)
        return Table(self.node, holding.chosen)

    def _place(self, at):
        """Return the place of a held item in chosen."""
        if at not in self.chosen:
            raise NotHeld(at)
        return self.chosen.index(at)

    def _check_item(self, at):
        """Raise NoItem unless the index is that of an item."""
        if at < 0 or at >= self.node.size:
            raise NoItem(at)

    def _amount(self, row):
        """Return the sum of coefficient times value at the corner, a Tall."""
        scale = common_scale(row)
        far, plain = self.holding.amount(made_whole(row, scale))
        base = scale * self.holding.inverse.base
        return Tall((Frac(far, base), Frac(plain, base)))
