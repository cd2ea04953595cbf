"""From any feasible point to the told answer."""

from bestpapers.answers import Answer
from bestpapers.below import below_run
from bestpapers.changes import first_aims
from bestpapers.cornering import led, side_at
from bestpapers.corners import check_none_whole
from bestpapers.floorlines import floor_lines
from bestpapers.nodes import Node
from bestpapers.points import aim_values, is_feasible
from bestpapers.refusals import NotFeasible
from bestpapers.tables import Table


def check_answer(problem, answer):
    """Raise NotFeasible unless an answer tells a feasible point."""
    if answer.kind not in ("best", "told"):
        raise NotFeasible()
    if len(answer.point) != problem.n or not is_feasible(problem, answer.point):
        raise NotFeasible()


def lines_paper(problem, climb, many):
    """Return the "floors" for the first stages, from the held set with which a climb ended."""
    chosen, _ = climb.path[-1]
    return ("floors", floor_lines(Table(Node(problem), chosen), many))


def settled(problem, answer):
    """Return the told or the endless answer to which the point of an answer leads."""
    check_none_whole(problem)
    check_answer(problem, answer)
    holding, corner, _ = led(problem, answer.point, True)
    sides = tuple([side_at(problem, at, corner) for at in holding.chosen])
    climb = below_run(problem, holding.chosen, sides)
    if climb.stage is None:
        paper = lines_paper(problem, climb, len(problem.aims) + problem.n)
        return Answer.told(aim_values(problem, climb.point), climb.point, paper)
    # Among the points that are best for the aims before, the first one is told.
    inner = first_aims(problem, climb.stage)
    chosen, sides = climb.path[-1]
    last = below_run(inner, chosen, sides)
    paper = lines_paper(inner, last, climb.stage)
    return Answer.endless(climb.stage, aim_values(inner, last.point), last.point, climb.ray, paper)
