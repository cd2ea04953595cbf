"""Reports: the items of a problem at the point of an answer, line by line."""

from bestpapers.checks import check_width
from bestpapers.itemrows import item_box, item_name, item_value
from bestpapers.refusals import NotFeasible
from bestpapers.writing import end_text

NAME_WIDTH = 12
NUMBER_WIDTH = 14


def item_line(problem, at, point):
    """Return the line of an item: its name, its value and its ends."""
    low, high = item_box(problem, at)
    texts = [str(item_value(problem, at, point)), end_text(low), end_text(high)]
    numbers = "".join([text.rjust(NUMBER_WIDTH) for text in texts])
    return item_name(problem, at).ljust(NAME_WIDTH) + numbers


def report(problem, answer):
    """Return the list of the lines of all items for an answer that tells a point."""
    if answer.kind not in ("told", "best"):
        raise NotFeasible()
    check_width(len(answer.point), problem.n)
    return [item_line(problem, at, answer.point) for at in range(problem.n + problem.m)]
