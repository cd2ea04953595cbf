"""Floors: bounds from below that prices show."""

from bestpapers.fracs import Frac, as_frac
from bestpapers.vectors import reduced


def priced_rows(problem, extra):
    """Return (coefficients, sense, right) for each row and each derived row."""
    rows = [(row.coefficients, row.sense, row.right) for row in problem.rows]
    return rows + [(coefficients, ">=", right) for coefficients, right in extra]


def is_wrong_price(price, sense):
    """Tell whether a price has the wrong sign for a row with this sense."""
    if sense == "<=":
        return price > 0
    return sense == ">=" and price < 0


def least_amount(row, boxes):
    """Return the least sum of coefficient times value within boxes, or None."""
    total = Frac(0)
    for number, (low, high) in zip(row, boxes):
        if number:
            end = low if number > 0 else high
            if end is None:
                return None
            total = total + number * end
    return total


def floor_by(node, row, constant, prices):
    """Return the floor of a row, with a constant, by prices in a node, or None."""
    rest = row
    total = as_frac(constant)
    for (coefficients, sense, right), price in zip(priced_rows(node.problem, node.extra), prices):
        if price:
            # A derived row may have lost its right side in another problem.
            if right is None or is_wrong_price(price, sense):
                return None
            rest = reduced(rest, price, coefficients)
            total = total + price * right
    least = least_amount(rest, node.boxes)
    if least is None:
        return None
    return total + least
