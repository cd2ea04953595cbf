"""The lines of a "floors" that show the numbers of a table's corner."""

from bestpapers.fracs import Frac
from bestpapers.pricing import prices_at
from bestpapers.refusals import NoStage, NotEnded
from bestpapers.stages import stage_rows
from bestpapers.vectors import reduced


def check_lines(table, many):
    """Raise NotEnded or NoStage unless a table has this many lines."""
    if table.outside() is not None:
        raise NotEnded()
    vector = table.vector()
    if many < 0 or many > len(vector) or any([bool(tall.parts[0]) for tall in vector[:many]]):
        raise NoStage(many)


def deciders(table, entries):
    """Return for each stage the pairs (place, number) of the held items that it decides.

    These are not fixed, and the number in this stage is the first one that is not zero.
    """
    found = [[] for _ in entries]
    for place, at in enumerate(table.chosen):
        if table.holding.wholes.is_fixed(at):
            continue
        for stage, entry in enumerate(entries):
            if entry[place]:
                found[stage].append((place, entry[place]))
                break
    return found


def times_needed(numbers, decided):
    """Return how often a stage must be added until no number has a wrong sign."""
    most = Frac(0)
    for place, number in decided:
        times = -numbers[place].over(number)
        if times > most:
            most = times
    return most


def floor_line(table, entries, decided, stage):
    """Return the line of a stage, a pair (multipliers, prices)."""
    numbers = entries[stage]
    multipliers = [Frac(0) for _ in range(stage)]
    for at in reversed(range(stage)):
        times = times_needed(numbers, decided[at])
        if times:
            multipliers[at] = -times
            numbers = reduced(numbers, -times, entries[at])
    return (tuple(multipliers), prices_at(table.node, table.chosen, numbers))


def floor_lines(table, many):
    """Return the lines for the first stages, which show the numbers of the corner exactly."""
    check_lines(table, many)
    entries = [table.coordinates(row) for row in stage_rows(table.node.problem)[:many]]
    decided = deciders(table, entries)
    return tuple([floor_line(table, entries, decided, stage) for stage in range(many)])
