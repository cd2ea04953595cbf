"""From a point to a corner that is not after it."""

from bestpapers.cornering import check_feasible, led, side_at


def purified(problem, point):
    """Return ("corner", chosen, sides, corner), or ("ray", ray) if points get better without end."""
    check_feasible(problem, point)
    holding, corner, ray = led(problem, point, False)
    if ray is not None:
        return ("ray", ray)
    sides = tuple([side_at(problem, at, corner) for at in holding.chosen])
    return ("corner", holding.chosen, sides, corner)
