"""Directions in which one may go on without end."""

from bestpapers.itemrows import item_box, item_value


def keeps_box(value, box):
    """Tell whether moving by a value, again and again, never leaves a box."""
    low, high = box
    if low is not None and value < 0:
        return False
    return high is None or value <= 0


def keeps_boxes(problem, direction):
    """Tell whether a direction of n numbers keeps the box rules of all items."""
    items = range(problem.n + problem.m)
    return all([keeps_box(item_value(problem, at, direction), item_box(problem, at)) for at in items])
