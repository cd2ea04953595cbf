"""Rows of numbers."""

from bestpapers.fracs import Frac, as_frac


def as_fracs(numbers):
    """Return the numbers of a sequence as a tuple of Fracs."""
    return tuple([as_frac(number) for number in numbers])


def unit_row(at, n):
    """Return the row of n numbers with 1 at an index and 0 elsewhere."""
    return tuple([Frac(1) if k == at else Frac(0) for k in range(n)])


def dot(left, right):
    """Return the sum of the products of two equally long sequences, a Frac."""
    total = Frac(0)
    for a, b in zip(left, right):
        total = total + a * b
    return total
