"""The exchange engine: runs from any held set to the told point, or to none."""

from bestpapers.fracs import Frac
from bestpapers.holdings import made_holding
from bestpapers.pricing import prices_at
from bestpapers.refusals import NotStuck
from bestpapers.tables import Table
from bestpapers.vectors import negative


class Run:
    """The held sets of a run, its last table, and the item at which it is stuck."""

    def __init__(self, path, table, stuck):
        self.path = path
        self.table = table
        self.stuck = stuck


def walked(holding):
    """Return (path, holding, stuck): the held sets of a run, and where it ends."""
    path = [holding.chosen]
    at = holding.outside()
    while at is not None:
        helper = holding.best_helper(at)
        if helper is None:
            break
        holding = holding.exchanged(helper, at)
        path.append(holding.chosen)
        at = holding.outside()
    return (tuple(path), holding, at)


def dual_run(node, start=None):
    """Return the run that begins with a held set, or with the variables."""
    chosen = tuple(range(node.problem.n)) if start is None else start
    path, holding, stuck = walked(made_holding(node, chosen))
    return Run(path, Table(node, holding.chosen), stuck)


def stuck_prices(table, stuck):
    """Return the prices that show that a node is empty, from the item that nothing helps."""
    numbers = table.entry(stuck) + (Frac(-1),)
    if table.holding.miss(stuck) < 0:
        numbers = negative(numbers)
    return prices_at(table.node, table.chosen + (stuck,), numbers)


def empty_prices(run):
    """Return the prices by which the node of a stuck run is shown to be empty."""
    if run.stuck is None:
        raise NotStuck()
    return stuck_prices(run.table, run.stuck)
