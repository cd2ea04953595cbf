"""The greatest flows from one place to another, and the bars that hold them up."""

from bestpapers.flowing import reached, streamed
from bestpapers.refusals import HasLow
from bestpapers.webanswers import web_answer
from bestpapers.webproblems import flow_problem


def back_stream(web, source, sink):
    """Return the stream in which one more edge brings back to the source what reached the sink."""
    edges = [(tail, head, low, high, 0) for tail, head, low, high, _ in web.edges]
    edges.append((sink, source, 0, None, -1))
    return streamed(web.places, edges, [0 for _ in range(web.places)])


def greatest_flow(web, source, sink):
    """Return the answer for the problem of the greatest amount from one place to another."""
    problem = flow_problem(web, source, sink)
    stream = back_stream(web, source, sink)
    return web_answer(problem, stream, stream.prices)


def bar(web, source, sink):
    """Return places with the source, out of which the edges carry no more than the greatest amount.

    It is None if there is no greatest amount.
    """
    flow_problem(web, source, sink)
    for at, (_, _, low, _, _) in enumerate(web.edges):
        if low != 0:
            raise HasLow(at)
    stream = back_stream(web, source, sink)
    if stream.ring is not None:
        return None
    return reached(web.places, web.edges, stream.amounts[:len(web.edges)], source)
