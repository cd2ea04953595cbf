"""The cheapest transports from supplies to demands."""

from bestpapers.flowing import streamed
from bestpapers.webanswers import web_answer
from bestpapers.webproblems import pairs_of, transport_problem


def cheapest_transport(supplies, demands, costs):
    """Return the answer for the problem of the cheapest transport."""
    problem = transport_problem(supplies, demands, costs)
    many = len(supplies)
    last = many + len(demands)
    edges = [(row, many + column, 0, None, cost) for row, column, cost in pairs_of(costs)]
    # One more place takes what is not sent, and what is brought beyond a demand.
    edges = edges + [(place, last, 0, None, 0) for place in range(last)]
    left = list(supplies) + [-demand for demand in demands]
    stream = streamed(last + 1, edges, left + [-sum(left)])
    zero = stream.prices[last]
    prices = [price - zero for price in stream.prices]
    return web_answer(problem, stream, prices[:many] + [-price for price in prices[many:last]])
