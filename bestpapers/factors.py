"""Factors: independent rows, with which sums of rows and columns are solved."""

from bestpapers.checks import check_count, check_width
from bestpapers.errors import NoItem
from bestpapers.fracs import Frac
from bestpapers.inverses import inverse_of
from bestpapers.refusals import Dependent
from bestpapers.scaling import common_scale, made_whole
from bestpapers.tall import Tall
from bestpapers.vectors import as_fracs

MOST_ROWS = 16


def checked_rows(rows):
    """Return the rows as tuples of Fracs, if their numbers are right."""
    check_count("rows", len(rows), 1, MOST_ROWS)
    for row in rows:
        check_width(len(row), len(rows))
    return tuple([as_fracs(row) for row in rows])


def whole_determinant(inverse, scales):
    """Return the determinant of the rows before they were multiplied by the scales."""
    product = 1
    for scale in scales:
        product = product * scale
    return Frac(inverse.turn * inverse.base, product)


class Factors:
    """The n independent rows of n numbers each; they never change."""

    def __init__(self, rows):
        self._rows = checked_rows(rows)
        self._scales = [common_scale(row) for row in self._rows]
        pairs = zip(self._rows, self._scales)
        self._inverse = inverse_of([made_whole(row, scale) for row, scale in pairs])
        self._determinant = whole_determinant(self._inverse, self._scales)

    @property
    def determinant(self):
        """The determinant of the rows."""
        return self._determinant

    def solve_row(self, row):
        """Return how often each of the rows is needed for a row."""
        check_width(len(row), len(self._rows))
        numbers = as_fracs(row)
        scale = common_scale(numbers)
        shares = self._inverse.shares(made_whole(numbers, scale))
        base = scale * self._inverse.base
        return tuple([Frac(share * own, base) for share, own in zip(shares, self._scales)])

    def solve_column(self, column):
        """Return the numbers, or Talls, with which the rows have these sums."""
        check_width(len(column), len(self._rows))
        if not isinstance(column[0], Tall):
            return self._solve_numbers(as_fracs(column))
        rows = [entry.parts for entry in column]
        solved = [self._solve_numbers(numbers) for numbers in zip(*rows)]
        return tuple([Tall(parts) for parts in zip(*solved)])

    def _solve_numbers(self, numbers):
        """Return the numbers with which the rows have these sums, Fracs."""
        amounts = [number * own for number, own in zip(numbers, self._scales)]
        scale = common_scale(amounts)
        base = scale * self._inverse.base
        return tuple([Frac(part, base) for part in self._inverse.solved(made_whole(amounts, scale))])

    def replaced(self, at, row):
        """Return the factors with another row at an index."""
        if at < 0 or at >= len(self._rows):
            raise NoItem(at)
        if not self.solve_row(row)[at]:
            raise Dependent(at)
        return Factors(self._rows[:at] + (tuple(row),) + self._rows[at + 1:])
