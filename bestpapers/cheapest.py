"""The cheapest flows of webs."""

from bestpapers.flowing import streamed
from bestpapers.webanswers import web_answer
from bestpapers.webproblems import web_problem


def cheapest_flow(web):
    """Return the answer for the problem of a web, found on the web itself."""
    stream = streamed(web.places, web.edges, web.supplies)
    return web_answer(web_problem(web), stream, stream.prices)
