"""The variables of problems."""

from bestpapers.errors import BadName, BadPull, Crossed, NoEnd, NotWhole
from bestpapers.fracs import as_frac
from bestpapers.names import is_name


def as_end(end):
    """Return an end as a Frac, or None if it is missing."""
    if end is None:
        return None
    return as_frac(end)


def usual_pull(low):
    """Return the pull of a variable for which none is given."""
    if low is None:
        return "up"
    return "down"


def is_whole_end(end):
    """Tell whether an end is there and a whole number."""
    return end is not None and end.is_whole


def is_pull(pull, low, high):
    """Tell whether a pull goes to an end that is not missing."""
    if pull == "down":
        return low is not None
    return pull == "up" and high is not None


def check_variable(variable):
    """Raise the first error of a variable."""
    name, low, high = variable.name, variable.low, variable.high
    if not is_name(name):
        raise BadName(name)
    if low is None and high is None:
        raise NoEnd(name)
    if low is not None and high is not None and low > high:
        raise Crossed(name)
    if variable.whole and not (is_whole_end(low) and is_whole_end(high)):
        raise NotWhole(name)
    if not is_pull(variable.pull, low, high):
        raise BadPull(name)


class Variable:
    """A number that is asked for, between two ends; it never changes."""

    def __init__(self, name, low=0, high=None, *, whole=False, pull=None):
        self.name = name
        self.low = as_end(low)
        self.high = as_end(high)
        self.whole = whole
        self.pull = usual_pull(low) if pull is None else pull
        check_variable(self)
