"""The steps by which the presolver makes a problem smaller.

Each function looks for the first step of a kind, makes it, and tells whether there was one.
"""

from bestpapers.floors import least_amount
from bestpapers.fracs import Frac
from bestpapers.itemrows import item_box
from bestpapers.shrinking import is_better
from bestpapers.vectors import negative, reduced, zeros

SIDES = ("low", "high")


def row_box(problem, at):
    """Return the pair of the ends between which the sum of a row must lie."""
    return item_box(problem, problem.n + at)


def places_used(row):
    """Return the list of the indexes of the coefficients that are not zero."""
    return [at for at, number in enumerate(row.coefficients) if number]


def boxes_of(problem):
    """Return the list of the boxes of the variables."""
    return [(variable.low, variable.high) for variable in problem.variables]


def greatest_amount(row, boxes):
    """Return the greatest sum of coefficient times value within boxes, or None."""
    least = least_amount(negative(row), boxes)
    return None if least is None else -least


def empty_step(remains):
    """A row without coefficients is taken out, or shows that the problem is empty."""
    problem = remains.problem
    for at, row in enumerate(problem.rows):
        if places_used(row):
            continue
        remains.steps.append(("empty", row.name))
        if row(zeros(problem.n)):
            remains.drop_row(at)
        else:
            numbers = list(zeros(problem.m))
            numbers[at] = Frac(-1 if row.right < 0 else 1)
            remains.close(remains.showing(zeros(remains.outer.n), numbers))
        return True
    return False


def sides_told(row, coefficient):
    """Return the sides on which a row with one coefficient gives an end."""
    if row.sense == "=":
        return SIDES
    return ("high",) if (row.sense == "<=") == (coefficient > 0) else ("low",)


def single_step(remains):
    """A row with one coefficient becomes ends of its variable."""
    problem = remains.problem
    for row_at, row in enumerate(problem.rows):
        used = places_used(row)
        if len(used) != 1:
            continue
        at = used[0]
        coefficient = row.coefficients[at]
        remains.steps.append(("single", row.name, problem.variables[at].name))
        for side in sides_told(row, coefficient):
            remains.narrow(at, side, row.right.over(coefficient), row_at)
        remains.drop_row(row_at)
        remains.renew(at)
        return True
    return False


def fixed_step(remains):
    """A fixed variable is taken out, unless it is the last one."""
    problem = remains.problem
    if problem.n < 2:
        return False
    for at, variable in enumerate(problem.variables):
        if variable.low == variable.high:
            remains.steps.append(("fixed", variable.name))
            remains.drop_variable(at)
            return True
    return False


def is_slack(problem, at):
    """Tell whether a row holds for all values within the boxes."""
    boxes = boxes_of(problem)
    low, high = row_box(problem, at)
    least = least_amount(problem.rows[at].coefficients, boxes)
    greatest = greatest_amount(problem.rows[at].coefficients, boxes)
    if low is not None and (least is None or least < low):
        return False
    return high is None or (greatest is not None and greatest <= high)


def slack_step(remains):
    """A row that holds for all values within the boxes is taken out."""
    problem = remains.problem
    for at, row in enumerate(problem.rows):
        if is_slack(problem, at):
            remains.steps.append(("slack", row.name))
            remains.drop_row(at)
            return True
    return False


def times_of(row, other):
    """Return the number by which the coefficients of other are multiplied in a row, or None."""
    # Rows of zeros are taken out before, so the other row has a coefficient.
    at = places_used(other)[0]
    times = row.coefficients[at].over(other.coefficients[at])
    left = reduced(row.coefficients, times, other.coefficients)
    return None if any([bool(number) for number in left]) else times


def divided_box(box, times):
    """Return the box that a sum has, if the sum times a number has the given one."""
    low, high = [None if end is None else end.over(times) for end in box]
    return (low, high) if times > 0 else (high, low)


def is_within(inner, outer):
    """Tell whether a box lies in another one."""
    pairs = zip(SIDES, inner, outer)
    return not any([end is not None and is_better(end, own, side) for side, own, end in pairs])


def gap_prices(box, other, times):
    """Return (price, other price) that show that two boxes have no number in common, or None.

    The second box is that of a row whose sum is that of the first row, multiplied.
    """
    if box[0] is not None and other[1] is not None and box[0] > other[1]:
        return (Frac(1), -Frac(1).over(times))
    if box[1] is not None and other[0] is not None and other[0] > box[1]:
        return (Frac(-1), Frac(1).over(times))
    return None


def double_step(remains, at, behind, times):
    """Make the step for two rows, of which the one behind is the other one, multiplied."""
    rows = remains.problem.rows
    box = row_box(remains.problem, at)
    other = divided_box(row_box(remains.problem, behind), times)
    gap = gap_prices(box, other, times)
    if gap is not None:
        remains.steps.append(("doubled", rows[behind].name, rows[at].name))
        numbers = list(zeros(len(rows)))
        numbers[at], numbers[behind] = gap
        remains.close(remains.showing(zeros(remains.outer.n), numbers))
        return True
    for inner, outer, out, kept in ((box, other, behind, at), (other, box, at, behind)):
        if is_within(inner, outer):
            remains.steps.append(("doubled", rows[out].name, rows[kept].name))
            remains.drop_row(out)
            return True
    return False


def doubled_step(remains):
    """Of two rows with the same sum but for a factor, the one that says less is taken out."""
    rows = remains.problem.rows
    for at, row in enumerate(rows):
        for behind in range(at + 1, len(rows)):
            times = times_of(rows[behind], row)
            if times is not None and double_step(remains, at, behind, times):
                return True
    return False


def implied_end(problem, row_at, at, side):
    """Return the end that a row and the other boxes give a variable, None if there is none."""
    row = problem.rows[row_at].coefficients
    low, high = row_box(problem, row_at)
    others = row[:at] + (Frac(0),) + row[at + 1:]
    if (side == "high") == (row[at] > 0):
        end = high
        amount = least_amount(others, boxes_of(problem))
    else:
        end = low
        amount = greatest_amount(others, boxes_of(problem))
    if end is None or amount is None:
        return None
    return (end - amount).over(row[at])


def is_step(variable, end, side):
    """Tell whether an implied end is missing so far, or makes the box of a whole variable narrower."""
    own = variable.low if side == "low" else variable.high
    if not variable.whole:
        return own is None
    return is_better(Frac(end.ceiling() if side == "low" else end.floor()), own, side)


def end_step(remains):
    """A row and the boxes of its other variables give a variable an end."""
    problem = remains.problem
    for row_at, row in enumerate(problem.rows):
        for at in places_used(row):
            for side in SIDES:
                variable = problem.variables[at]
                end = implied_end(problem, row_at, at, side)
                if end is not None and is_step(variable, end, side):
                    remains.steps.append(("end", row.name, variable.name, side))
                    remains.narrow(at, side, end, row_at)
                    remains.renew(at)
                    return True
    return False


KINDS = (empty_step, single_step, fixed_step, slack_step, doubled_step, end_step)


def made_step(remains):
    """Make the first step that is found; tell whether there was one."""
    for kind in KINDS:
        if kind(remains):
            return True
    return False
