"""Inverses of rows of integers, kept as integers over a common base."""

from bestpapers.refusals import Dependent


class Inverse:
    """What n independent rows of integers make of other rows; it never changes.

    The numbers of line j of the grid, divided by the base, tell how often each of
    the n rows is needed for the row that has 1 at j and 0 elsewhere. The base is
    above zero; times the turn, 1 or -1, it is the determinant of the rows. So all
    numbers stay whole, and every division below leaves nothing over.
    """

    def __init__(self, grid, base, turn):
        self.grid = grid
        self.base = base
        self.turn = turn

    def shares(self, row):
        """Return how often each of the n rows is needed for a row, times the base."""
        total = [0] * len(self.grid)
        for number, line in zip(row, self.grid):
            if number:
                total = [a + number * b for a, b in zip(total, line)]
        return total

    def solved(self, column):
        """Return the numbers with which the rows have these sums, times the base."""
        return [sum([a * b for a, b in zip(line, column)]) for line in self.grid]

    def replaced(self, at, shares):
        """Return the inverse with another row, of which the shares are given, at an index."""
        turn = -1 if shares[at] < 0 else 1
        pivot = turn * shares[at]
        grid = []
        for line in self.grid:
            part = turn * line[at]
            changed = [(a * pivot - part * b) // self.base for a, b in zip(line, shares)]
            changed[at] = part
            grid.append(changed)
        return Inverse(grid, pivot, turn * self.turn)

    def moved(self, start, end):
        """Return the inverse with the row at start taken out and put in again at end."""
        if start == end:
            return self
        grid = []
        for line in self.grid:
            rest = line[:start] + line[start + 1:]
            grid.append(rest[:end] + [line[start]] + rest[end:])
        turn = 1 - (start - end) % 2 * 2
        return Inverse(grid, self.base, turn * self.turn)


def unit_inverse(n):
    """Return the inverse of the n rows that have 1 at one place and 0 elsewhere."""
    return Inverse([[1 if k == at else 0 for k in range(n)] for at in range(n)], 1, 1)


def with_row(inverse, many, row):
    """Return the inverse with a row behind its first many ones, or None.

    None says that the row is a sum of multiples of these.
    """
    shares = inverse.shares(row)
    for at in range(many, len(shares)):
        if shares[at]:
            return inverse.replaced(at, shares).moved(at, many)
    return None


def inverse_of(rows):
    """Return the inverse of n rows of n integers; Dependent tells the index of a row."""
    inverse = unit_inverse(len(rows))
    for at, row in enumerate(rows):
        inverse = with_row(inverse, at, row)
        if inverse is None:
            raise Dependent(at)
    return inverse
