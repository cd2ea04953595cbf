"""Rows of fractions, multiplied by an integer that makes them whole."""

from math import lcm


def common_scale(numbers):
    """Return the least positive integer that makes all of these Fracs whole."""
    scale = 1
    for number in numbers:
        if number.den != 1:
            scale = lcm(scale, number.den)
    return scale


def made_whole(numbers, scale):
    """Return the list of the integers that Fracs become, multiplied by such an integer."""
    return [number.num * (scale // number.den) for number in numbers]


def whole_dot(left, right):
    """Return the sum of the products of two equally long lists of integers."""
    return sum([a * b for a, b in zip(left, right)])
