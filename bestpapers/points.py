"""Points: what they break, and what the aims are worth at them."""

from bestpapers.checks import check_width
from bestpapers.itemrows import item_box, item_value


def is_inside(value, box):
    """Tell whether a value lies in a box, ends included."""
    low, high = box
    if low is not None and value < low:
        return False
    return high is None or value <= high


def is_broken(problem, at, point):
    """Tell whether the value of an item at a point is not allowed."""
    value = item_value(problem, at, point)
    if at < problem.n and problem.variables[at].whole and not value.is_whole:
        return True
    return not is_inside(value, item_box(problem, at))


def broken(problem, point):
    """Return the ascending tuple of the items whose values are not allowed."""
    check_width(len(point), problem.n)
    return tuple([at for at in range(problem.n + problem.m) if is_broken(problem, at, point)])


def is_feasible(problem, point):
    """Tell whether a point breaks nothing."""
    return not broken(problem, point)


def aim_values(problem, point):
    """Return the tuple of the values of the aims at a point."""
    check_width(len(point), problem.n)
    return tuple([aim.amount(point) for aim in problem.aims])
