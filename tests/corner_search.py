"""A search of the tests' own: all corners of a problem, and all directions of its rays."""

import itertools

from bestpapers.changes import relaxed
from bestpapers.directions import keeps_boxes
from bestpapers.fracs import Frac
from bestpapers.itemrows import item_box, item_row
from bestpapers.points import is_feasible
from bestpapers.stages import stage_rows, stage_vector
from tests.algebra import fracs, plain, rank, solved


def corners(problem):
    """All corners, each once, the first one first."""
    loose, found = relaxed(problem), []
    for chosen in itertools.combinations(range(problem.n + problem.m), problem.n):
        rows = [item_row(problem, at) for at in chosen]
        if rank(rows) < problem.n:
            continue
        ends = [[end for end in item_box(problem, at) if end is not None] for at in chosen]
        for rights in itertools.product(*ends):
            point = fracs(solved(rows, rights))
            if point not in found and is_feasible(loose, point):
                found.append(point)
    return sorted(found, key=lambda point: stage_vector(problem, point))


def is_corner(problem, point):
    """Tell whether a point is a corner, by the words of point 49."""
    if not is_feasible(relaxed(problem), point):
        return False
    rows = []
    for at in range(problem.n + problem.m):
        row = item_row(problem, at)
        value = sum(plain(a) * plain(x) for a, x in zip(row, point))
        if any(end is not None and plain(end) == value for end in item_box(problem, at)):
            rows.append(row)
    return rank(rows) == problem.n


def first_rows(problem, direction):
    """The values of the stage rows at a direction."""
    return [sum(plain(a) * plain(x) for a, x in zip(row, direction)) for row in stage_rows(problem)]


def gets_better(problem, direction):
    """Tell whether a direction keeps the box rules and its first value that is not zero is below zero."""
    values = [value for value in first_rows(problem, direction) if value]
    return keeps_boxes(problem, direction) and bool(values) and values[0] < 0


def extreme_rays(problem):
    """Directions that keep the box rules, among them all extreme ones."""
    found = []
    items = range(problem.n + problem.m)
    for chosen in itertools.combinations(items, problem.n):
        rows = [item_row(problem, at) for at in chosen]
        if rank(rows) < problem.n:
            continue
        for place in range(problem.n):
            for number in (1, -1):
                rights = [number if at == place else 0 for at in range(problem.n)]
                direction = fracs(solved(rows, rights))
                if keeps_boxes(problem, direction) and direction not in found:
                    found.append(direction)
    return found


def told(problem):
    """What solve must find for a problem without whole variables: kind, at, and the point."""
    points = corners(problem)
    if not points:
        return "empty", None, None
    stages = [len(problem.aims) + problem.n]
    for ray in extreme_rays(problem):
        if gets_better(problem, ray):
            values = first_rows(problem, ray)
            stages.append(next(at for at, value in enumerate(values) if value))
    if min(stages) < len(problem.aims):
        return "endless", min(stages), None
    return "told", None, points[0]


def middle(points):
    """The point in the middle of some points."""
    many = len(points)
    return tuple(sum((Frac(1) * number for number in numbers), Frac(0)).over(many) for numbers in zip(*points))
