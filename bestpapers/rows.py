"""Sums of coefficient times value: rows, which are conditions, and aims."""

from bestpapers.checks import check_count, check_width
from bestpapers.errors import BadName, BadSense
from bestpapers.fracs import as_frac
from bestpapers.names import is_name
from bestpapers.vectors import as_fracs, dot

MOST_COEFFICIENTS = 16


class Sum:
    """A sum of coefficient times value; it never changes."""

    def __init__(self, coefficients):
        check_count("coefficients", len(coefficients), 1, MOST_COEFFICIENTS)
        self.coefficients = as_fracs(coefficients)

    def amount(self, point):
        """Return the sum at a point."""
        check_width(len(point), len(self.coefficients))
        return dot(self.coefficients, point)


class Row(Sum):
    """The condition that a sum is at most, at least or exactly a number."""

    def __init__(self, name, coefficients, sense, right):
        if not is_name(name):
            raise BadName(name)
        super().__init__(coefficients)
        if sense not in ("<=", ">=", "="):
            raise BadSense(sense)
        self.name = name
        self.sense = sense
        self.right = as_frac(right)

    def __call__(self, point):
        amount = self.amount(point)
        if self.sense == "<=":
            return amount <= self.right
        if self.sense == ">=":
            return amount >= self.right
        return amount == self.right


class Aim(Sum):
    """A sum, with a constant, that is to be as small or as large as possible."""

    def __init__(self, sense, coefficients, constant=0):
        if sense not in ("min", "max"):
            raise BadSense(sense)
        super().__init__(coefficients)
        self.sense = sense
        self.constant = as_frac(constant)

    def amount(self, point):
        """Return the sum at a point, with the constant."""
        return super().amount(point) + self.constant
