"""A presolver of the tests' own, by the words of points 66 to 68, on Fractions and plain lists."""

import math
import random

from bestpapers.fracs import Frac
from bestpapers.problems import Problem
from bestpapers.rows import Aim, Row
from bestpapers.variables import Variable
from tests.algebra import plain, plains, some_number, some_row, some_variable


class Empty(Exception):
    """The problem was found empty."""


def end_of(number):
    return None if number is None else plain(number)


def unfolded(problem):
    """A problem as lists of dicts."""
    return {
        "variables": [{"name": v.name, "low": end_of(v.low), "high": end_of(v.high), "whole": v.whole, "pull": v.pull}
                      for v in problem.variables],
        "rows": [{"name": r.name, "row": plains(r.coefficients), "sense": r.sense, "right": plain(r.right)}
                 for r in problem.rows],
        "aims": [{"sense": a.sense, "row": plains(a.coefficients), "constant": plain(a.constant)} for a in problem.aims],
    }


def box(row):
    return {"<=": (None, row["right"]), ">=": (row["right"], None), "=": (row["right"], row["right"])}[row["sense"]]


def extreme(row, parts, greatest, leave=None):
    """The least or the greatest sum within the boxes, None if an end is missing."""
    total = 0
    for at, number in enumerate(row):
        if number and at != leave:
            end = parts["variables"][at]["high" if (number > 0) == greatest else "low"]
            if end is None:
                return None
            total += number * end
    return total


def rounded(variable, side, end):
    if not variable["whole"]:
        return end
    return math.ceil(end) if side == "low" else math.floor(end)


def narrower(side, end, present):
    return present is None or (end > present if side == "low" else end < present)


def check(variable):
    if variable["low"] is not None and variable["high"] is not None and variable["low"] > variable["high"]:
        raise Empty


def empty(parts, steps, ends):
    for row in parts["rows"]:
        if not any(row["row"]):
            steps.append(("empty", row["name"]))
            low, high = box(row)
            if (low is not None and low > 0) or (high is not None and high < 0):
                raise Empty
            parts["rows"].remove(row)
            return True


def single(parts, steps, ends):
    for row in parts["rows"]:
        used = [at for at, number in enumerate(row["row"]) if number]
        if len(used) == 1:
            variable, number = parts["variables"][used[0]], row["row"][used[0]]
            steps.append(("single", row["name"], variable["name"]))
            low, high = box(row)
            if number < 0:
                low, high = high, low
            for side, end in (("low", low), ("high", high)):
                if end is not None and narrower(side, rounded(variable, side, end / number), variable[side]):
                    variable[side] = rounded(variable, side, end / number)
                    ends.append((variable["name"], side, variable[side]))
            parts["rows"].remove(row)
            check(variable)
            return True


def fixed(parts, steps, ends):
    for at, variable in enumerate(parts["variables"]):
        if variable["low"] is not None and variable["low"] == variable["high"] and len(parts["variables"]) >= 2:
            steps.append(("fixed", variable["name"]))
            for row in parts["rows"]:
                row["right"] -= row["row"].pop(at) * variable["low"]
            for aim in parts["aims"]:
                aim["constant"] += aim["row"].pop(at) * variable["low"]
            parts["variables"].pop(at)
            return True


def slack(parts, steps, ends):
    for row in parts["rows"]:
        low, high = box(row)
        least, greatest = [extreme(row["row"], parts, side) for side in (False, True)]
        if low is not None and (least is None or least < low):
            continue
        if high is not None and (greatest is None or greatest > high):
            continue
        steps.append(("slack", row["name"]))
        parts["rows"].remove(row)
        return True


def lows_and_highs(ends):
    """A box with endless numbers in the places of missing ends."""
    low, high = ends
    return (-math.inf if low is None else low), (math.inf if high is None else high)


def doubled(parts, steps, ends):
    rows = parts["rows"]
    for i in range(len(rows)):
        for k in range(i + 1, len(rows)):
            first, second = rows[i]["row"], rows[k]["row"]
            if not any(first) or not any(second):
                continue
            at = next(at for at, number in enumerate(first) if number)
            z = second[at] / first[at]
            if z == 0 or [z * number for number in first] != second:
                continue
            other = [None if end is None else end / z for end in box(rows[k])]
            low, high = lows_and_highs(other if z > 0 else other[::-1])
            own_low, own_high = lows_and_highs(box(rows[i]))
            if max(low, own_low) > min(high, own_high):
                steps.append(("doubled", rows[k]["name"], rows[i]["name"]))
                raise Empty
            if low <= own_low and own_high <= high:
                steps.append(("doubled", rows[k]["name"], rows[i]["name"]))
                rows.pop(k)
                return True
            if own_low <= low and high <= own_high:
                steps.append(("doubled", rows[i]["name"], rows[k]["name"]))
                rows.pop(i)
                return True


def ends_told(parts, row, at):
    """The implied ends of a variable by a row, by their sides."""
    low, high = box(row)
    number, found = row["row"][at], {}
    least, greatest = [extreme(row["row"], parts, side, at) for side in (False, True)]
    if high is not None and least is not None:
        found["high" if number > 0 else "low"] = (high - least) / number
    if low is not None and greatest is not None:
        found["low" if number > 0 else "high"] = (low - greatest) / number
    return found


def implied(parts, steps, ends):
    for row in parts["rows"]:
        for at, variable in enumerate(parts["variables"]):
            if not row["row"][at]:
                continue
            for side in ("low", "high"):
                end = ends_told(parts, row, at).get(side)
                if end is None:
                    continue
                end = rounded(variable, side, end)
                if variable[side] is None or (variable["whole"] and narrower(side, end, variable[side])):
                    steps.append(("end", row["name"], variable["name"], side))
                    variable[side] = end
                    ends.append((variable["name"], side, end))
                    check(variable)
                    return True


KINDS = (empty, single, fixed, slack, doubled, implied)


def presolved(problem):
    """The parts of the inner problem, None if it is empty, the steps, and the ends that they set."""
    parts, steps, ends = unfolded(problem), [], []
    try:
        while any(kind(parts, steps, ends) for kind in KINDS):
            pass
    except Empty:
        parts = None
    return parts, tuple(steps), ends


def some_nested(chance, whole=4):
    """A problem in which steps are likely: rows of zeros, single and doubled ones, fixed variables."""
    n = chance.randint(1, 4)
    items = []
    for at in range(n):
        item = some_variable(chance, f"x{at}", chance.randint(0, 9) < whole)
        if chance.randint(0, 5) == 0 and item.low is not None:
            item = Variable(item.name, item.low, item.low, whole=item.whole)
        items.append(item)
    rows = []
    for at in range(chance.randint(0, 5)):
        kind = chance.randint(0, 9)
        row = some_row(chance, n)
        if kind == 0:
            row = [0] * n
        if kind == 1:
            row = [0] * n
            row[chance.randrange(n)] = some_number(chance) or 1
        if kind in (2, 3, 4) and rows:
            factor = chance.choice((1, -1, 2, -2, Frac(1, 2), Frac(-2, 3)))
            row = [factor * number for number in chance.choice(rows).coefficients]
        rows.append(Row(f"r{at}", row, chance.choice(("<=", ">=", "=", "<=", ">=")), some_number(chance, 6)))
    aims = [Aim(chance.choice(("min", "max")), some_row(chance, n), chance.randint(-2, 2))
            for _ in range(chance.randint(0, 2))]
    return Problem(items, rows, aims)


def some_rich(chance, whole=6):
    """A problem of which the presolver leaves much, near a point that satisfies most of its rows."""
    n = chance.randint(3, 5)
    items, point = [], []
    for at in range(n):
        low, wide = chance.randint(-1, 1), chance.choice((0, 1, 2, 3))
        point.append(chance.randint(low, low + wide))
        if chance.randint(0, 9) < whole:
            items.append(Variable(f"x{at}", low, low + wide, whole=True, pull=chance.choice(("up", "down"))))
        elif chance.randint(0, 2):
            items.append(Variable(f"x{at}", low, low + wide))
        else:
            items.append(chance.choice((Variable(f"x{at}", low, None), Variable(f"x{at}", None, low + wide))))
    rows = []
    for at in range(chance.randint(1, 4)):
        row = [chance.randint(-3, 3) for _ in range(n)]
        sense = chance.choice(("<=", ">="))
        room = Frac(chance.randint(-1, 2), 2)
        amount = sum(a * x for a, x in zip(row, point))
        rows.append(Row(f"r{at}", row, sense, amount + room if sense == "<=" else amount - room))
    if chance.randint(0, 3) == 0:
        places = [at for at, item in enumerate(items) if item.whole and item.low < item.high]
        rows.append(Row("odd", [2 if at in places else 0 for at in range(n)], "=", 2 * sum(point[at] for at in places) + 1))
    if chance.randint(0, 1):
        at = chance.randrange(n)
        rows.append(Row("one", [2 if k == at else 0 for k in range(n)], "<=", 2 * point[at] + chance.choice((0, 1, 2))))
    aims = [Aim(chance.choice(("min", "max")), [chance.randint(-2, 2) for _ in range(n)]) for _ in range(chance.randint(0, 2))]
    return Problem(items, rows, aims)


def nested(seed, many, whole=4, rich=False):
    """Many such problems."""
    chance = random.Random(seed)
    return [some_rich(chance, whole) if rich else some_nested(chance, whole) for _ in range(many)]
