"""Rows of numbers."""

from bestpapers.fracs import Frac, as_frac


def as_fracs(numbers):
    """Return the numbers of a sequence as a tuple of Fracs."""
    return tuple([as_frac(number) for number in numbers])


def zeros(n):
    """Return the row of n zeros."""
    return tuple([Frac(0) for _ in range(n)])


def unit_row(at, n):
    """Return the row of n numbers with 1 at an index and 0 elsewhere."""
    return tuple([Frac(1) if k == at else Frac(0) for k in range(n)])


def negative(row):
    """Return the row of the negatives."""
    return tuple([-number for number in row])


def reduced(row, number, other):
    """Return a row minus a number times another row."""
    return tuple([a - number * b for a, b in zip(row, other)])


def dot(left, right):
    """Return the sum of the products of two equally long sequences, a Frac."""
    total = Frac(0)
    for a, b in zip(left, right):
        # Most rows are full of zeros, and a look costs less than a product.
        if a:
            total = total + a * b
    return total
