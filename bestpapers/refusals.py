"""The errors about tables, runs, cuts, webs and the desk."""

from bestpapers.errors import BestError


class Dependent(BestError):
    """A row is a sum of multiples of other rows."""

    def __init__(self, at):
        self.at = at


class BadHeld(BestError):
    """The chosen integers are not n different items."""

    def __init__(self, chosen):
        self.chosen = tuple(chosen)


class NoStage(BestError):
    """There is no stage with the given index, or not that many stages."""

    def __init__(self, stage):
        self.stage = stage


class NotHeld(BestError):
    """An item is not held."""

    def __init__(self, at):
        self.at = at


class IsHeld(BestError):
    """An item is held already."""

    def __init__(self, at):
        self.at = at


class TooMany(BestError):
    """There are too many sets to go through."""

    def __init__(self, many, most):
        self.many = many
        self.most = most


class NotFeasible(BestError):
    """A point is not feasible, or there is none."""


class NotStuck(BestError):
    """A run is not stuck."""


class NotEnded(BestError):
    """A table is not the last one of a run that reached an end."""


class BadSides(BestError):
    """The sides do not belong to the held items."""

    def __init__(self, sides):
        self.sides = tuple(sides)


class IsWhole(BestError):
    """A variable is whole where none may be."""

    def __init__(self, name):
        self.name = name


class NoTold(BestError):
    """A problem has no told point."""

    def __init__(self, kind):
        self.kind = kind


class NoCut(BestError):
    """A variable gives no cut."""

    def __init__(self, variable):
        self.variable = variable


class NoFloor(BestError):
    """Prices have no floor."""


class Decided(BestError):
    """The presolver has decided the problem already."""


class NotEmpty(BestError):
    """A problem has a feasible point."""


class NoPlace(BestError):
    """A web has no such place."""

    def __init__(self, place):
        self.place = place


class BadEdge(BestError):
    """An edge of a web is wrong."""

    def __init__(self, at):
        self.at = at


class BadSupply(BestError):
    """The supply of a place is out of range."""

    def __init__(self, place):
        self.place = place


class Unbalanced(BestError):
    """The supplies of a web do not add up to zero."""

    def __init__(self, total):
        self.total = total


class SamePlace(BestError):
    """Two places that must differ are equal."""

    def __init__(self, place):
        self.place = place


class HasLow(BestError):
    """An edge has a low end other than zero."""

    def __init__(self, at):
        self.at = at


class BadTable(BestError):
    """A table of costs is wrong."""


class BadCommand(BestError):
    """A line is not a command."""

    def __init__(self, text):
        self.text = text


class NoAnswer(BestError):
    """There is no last answer."""


class NothingToUndo(BestError):
    """There is no change that can be undone."""


class NothingToRedo(BestError):
    """There is no change that can be redone."""
