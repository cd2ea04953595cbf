"""The judge: whether an answer is right, as its paper shows."""

from bestpapers.directions import keeps_boxes
from bestpapers.judging import shows
from bestpapers.points import aim_values, is_feasible
from bestpapers.stages import stage_rows, stage_vector
from bestpapers.vectors import dot


def reaches_totals(problem, answer, many):
    """Tell whether the point is feasible and the totals are its first aim values."""
    if len(answer.point) != problem.n or not is_feasible(problem, answer.point):
        return False
    return answer.totals == aim_values(problem, answer.point)[:many]


def shows_first(problem, answer, many):
    """Tell whether the paper shows the first numbers of the point's stage vector."""
    return shows(problem, stage_vector(problem, answer.point)[:many], answer.paper)


def is_ray(problem, at, ray):
    """Tell whether a ray keeps the aims before an aim and betters that one."""
    if len(ray) != problem.n or not keeps_boxes(problem, ray):
        return False
    values = [dot(row, ray) for row in stage_rows(problem)[:at + 1]]
    return values[at] < 0 and not any([bool(value) for value in values[:at]])


def judge_endless(problem, answer):
    """Tell whether an answer of the kind "endless" is right."""
    if answer.at < 0 or answer.at >= len(problem.aims):
        return False
    if not reaches_totals(problem, answer, answer.at):
        return False
    return is_ray(problem, answer.at, answer.ray) and shows_first(problem, answer, answer.at)


def judge(problem, answer):
    """Tell whether an answer is right, as its paper shows."""
    if answer.kind == "empty":
        return shows(problem, None, answer.paper)
    if answer.kind == "endless":
        return judge_endless(problem, answer)
    aims = len(problem.aims)
    if not reaches_totals(problem, answer, aims):
        return False
    return shows_first(problem, answer, aims if answer.kind == "best" else aims + problem.n)
