"""Points as mixtures of corners."""

from bestpapers.cornering import check_feasible, first_stop, led
from bestpapers.fracs import Frac
from bestpapers.vectors import as_fracs, reduced


def mixture(problem, point):
    """Return (weights, corners, ray) of which a point is the sum."""
    check_feasible(problem, point)
    rest = as_fracs(point)
    left = Frac(1)
    weights = []
    corners = []
    while True:
        _, corner, _ = led(problem, rest, True)
        corners.append(corner)
        direction = reduced(rest, 1, corner)
        stop = first_stop(problem, rest, direction)
        if stop is None:
            weights.append(left)
            return (tuple(weights), tuple(corners), tuple([left * number for number in direction]))
        # Beyond the point lies one that is at more ends; both ends of this way make the point.
        length = stop[0]
        weights.append((left * length).over(length + 1))
        left = left.over(length + 1)
        rest = reduced(rest, -length, direction)
