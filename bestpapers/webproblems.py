"""The problems that ask for flows, roads, pairings and transports."""

from bestpapers.checks import check_count
from bestpapers.problems import Problem
from bestpapers.refusals import BadTable, SamePlace
from bestpapers.rows import Aim, Row
from bestpapers.variables import Variable
from bestpapers.webs import check_place, is_amount

MOST_LINES = 4


def place_row(web, place):
    """Return the coefficients of a place: 1 at edges that leave it, -1 at those that come to it."""
    return tuple([1 if tail == place else -1 if head == place else 0
                  for tail, head, _, _, _ in web.edges])


def check_ways(web, source, goal):
    """Raise NoPlace or SamePlace unless two different places of a web are told."""
    check_place(web.places, source)
    check_place(web.places, goal)
    if source == goal:
        raise SamePlace(source)


def edge_costs(web):
    """Return the list of the costs of the edges."""
    return [cost for _, _, _, _, cost in web.edges]


def web_problem(web):
    """Return the problem that asks for a flow with the least costs."""
    variables = [Variable(f"e{at}", low, high) for at, (_, _, low, high, _) in enumerate(web.edges)]
    rows = [Row(f"v{place}", place_row(web, place), "=", web.supplies[place])
            for place in range(web.places)]
    return Problem(variables, rows, [Aim("min", edge_costs(web))])


def flow_problem(web, source, sink):
    """Return the problem that asks for the greatest amount from one place to another."""
    check_ways(web, source, sink)
    many = len(web.edges)
    check_count("variables", many + 1, 1, Problem.MOST_VARIABLES)
    variables = [Variable(f"e{at}", low, high) for at, (_, _, low, high, _) in enumerate(web.edges)]
    ends = {source: -1, sink: 1}
    rows = [Row(f"v{place}", place_row(web, place) + (ends.get(place, 0),), "=", 0)
            for place in range(web.places)]
    return Problem(variables + [Variable("a")], rows, [Aim("max", [0] * many + [1])])


def road_problem(web, source, goal):
    """Return the problem that asks for a shortest road from one place to another."""
    check_ways(web, source, goal)
    ends = {source: 1, goal: -1}
    variables = [Variable(f"e{at}") for at in range(len(web.edges))]
    rows = [Row(f"v{place}", place_row(web, place), "=", ends.get(place, 0))
            for place in range(web.places)]
    return Problem(variables, rows, [Aim("min", edge_costs(web))])


def check_table(costs, many, wide):
    """Raise BadTable unless a table has this many rows and entries in each row."""
    if len(costs) != many:
        raise BadTable()
    for line in costs:
        if len(line) != wide or not all([cost is None or is_amount(cost) for cost in line]):
            raise BadTable()


def pairs_of(costs):
    """Return the list of (row, column, cost) for each pair of a table that is not barred."""
    return [(row, column, cost) for row, line in enumerate(costs)
            for column, cost in enumerate(line) if cost is not None]


def row_of_pairs(pairs, place, line):
    """Return coefficients that are 1 at the pairs of a row (place 0) or of a column (place 1)."""
    return [1 if pair[place] == line else 0 for pair in pairs]


def table_problem(word, pairs, rows):
    """Return the problem of the pairs of a table; rows holds (name, place, line, sense, right)."""
    check_count("variables", len(pairs), 1, Problem.MOST_VARIABLES)
    variables = [Variable(f"{word}{row}{column}") for row, column, _ in pairs]
    made = [Row(name, row_of_pairs(pairs, place, line), sense, right)
            for name, place, line, sense, right in rows]
    return Problem(variables, made, [Aim("min", [cost for _, _, cost in pairs])])


def pairing_problem(costs):
    """Return the problem that asks for the cheapest pairing of rows and columns."""
    many = len(costs)
    if many < 1 or many > MOST_LINES:
        raise BadTable()
    check_table(costs, many, many)
    rows = [(f"r{line}", 0, line, "=", 1) for line in range(many)]
    rows = rows + [(f"c{line}", 1, line, "=", 1) for line in range(many)]
    return table_problem("p", pairs_of(costs), rows)


def transport_problem(supplies, demands, costs):
    """Return the problem that asks for the cheapest transport from supplies to demands."""
    check_count("supplies", len(supplies), 1, MOST_LINES)
    check_count("demands", len(demands), 1, MOST_LINES)
    if not all([number >= 0 and is_amount(number) for number in list(supplies) + list(demands)]):
        raise BadTable()
    check_table(costs, len(supplies), len(demands))
    rows = [(f"s{line}", 0, line, "<=", supply) for line, supply in enumerate(supplies)]
    rows = rows + [(f"d{line}", 1, line, ">=", demand) for line, demand in enumerate(demands)]
    return table_problem("t", pairs_of(costs), rows)
