"""Answers for the problems of webs, from what was found out about their flows."""

from bestpapers.answers import Answer
from bestpapers.points import aim_values
from bestpapers.vectors import as_fracs


def web_answer(problem, stream, prices):
    """Return the answer for a problem whose variables are the first edges of a stream.

    The prices are those of the stream, as they belong to the rows of the problem.
    """
    row = as_fracs(prices)
    if stream.amounts is None:
        return Answer.empty(("empty", row))
    point = as_fracs(stream.amounts[:problem.n])
    if stream.ring is not None:
        ray = as_fracs([1 if at in stream.ring else 0 for at in range(problem.n)])
        return Answer.endless(0, (), point, ray, ("floors", ()))
    return Answer.best(aim_values(problem, point), point, ("floors", (((), row),)))
