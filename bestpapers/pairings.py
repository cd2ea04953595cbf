"""The cheapest pairings of the rows and the columns of tables."""

from bestpapers.flowing import streamed
from bestpapers.webanswers import web_answer
from bestpapers.webproblems import pairing_problem, pairs_of


def cheapest_pairing(costs):
    """Return the answer for the problem of the cheapest pairing."""
    problem = pairing_problem(costs)
    many = len(costs)
    edges = [(row, many + column, 0, None, cost) for row, column, cost in pairs_of(costs)]
    stream = streamed(2 * many, edges, [1] * many + [-1] * many)
    # What comes to a place counts against it, but a row of the problem adds it up.
    prices = stream.prices[:many] + [-price for price in stream.prices[many:]]
    return web_answer(problem, stream, prices)
