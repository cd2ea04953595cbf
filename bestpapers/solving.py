"""The solver: an answer, with its paper, for every problem."""

from bestpapers.answers import Answer
from bestpapers.changes import first_aims
from bestpapers.checks import check_count
from bestpapers.dual import dual_run, walked
from bestpapers.holdings import made_holding
from bestpapers.nodes import Node
from bestpapers.points import aim_values
from bestpapers.searching import searched

MOST_CUTS = 4


def endless_aim(table):
    """Return the index of the first aim that gets better without end at a corner, or None."""
    for stage, tall in enumerate(table.vector()):
        if tall.parts[0]:
            return stage
    return None


def endless_answer(problem, table, at, cuts):
    """Return the answer of a problem of which an aim is endless, if there is a point at all."""
    inner = first_aims(problem, at)
    _, holding, stuck = walked(made_holding(Node(inner), table.chosen))
    point, paper = searched(holding, stuck, cuts, at)
    if point is None:
        return Answer.empty(paper)
    ray = tuple([tall.parts[0] for tall in table.corner()])
    return Answer.endless(at, aim_values(inner, point), point, ray, paper)


def answer_of(run, cuts):
    """Return the answer of the problem in whose node a run was made."""
    problem = run.table.node.problem
    at = None if run.stuck is not None else endless_aim(run.table)
    if at is not None:
        return endless_answer(problem, run.table, at, cuts)
    point, paper = searched(run.table.holding, run.stuck, cuts, len(problem.aims) + problem.n)
    if point is None:
        return Answer.empty(paper)
    return Answer.told(aim_values(problem, point), point, paper)


def solve(problem, *, cuts=0, start=None):
    """Return the answer of a problem."""
    check_count("cuts", cuts, 0, MOST_CUTS)
    return answer_of(dual_run(Node(problem), start), cuts)
