"""Tall numbers: rows of numbers that are compared like words."""

from bestpapers.checks import check_count
from bestpapers.errors import UnlikeParts
from bestpapers.fracs import Frac
from bestpapers.vectors import as_fracs

MOST_PARTS = 24


def check_like(left, right):
    """Raise UnlikeParts unless two Talls have the same number of parts."""
    if len(left.parts) != len(right.parts):
        raise UnlikeParts(len(left.parts), len(right.parts))


class Tall:
    """A row of 1 to 24 numbers, of which the first decides; it never changes."""

    def __init__(self, parts):
        check_count("parts", len(parts), 1, MOST_PARTS)
        self.parts = as_fracs(parts)

    @staticmethod
    def plain(number):
        """Return the Tall with two parts that stands for a number."""
        return Tall((0, number))

    @staticmethod
    def far(number):
        """Return the Tall with two parts that stands for a number times M."""
        return Tall((number, 0))

    def over(self, number):
        """Return the Tall with each part divided by a number."""
        return Tall([part.over(number) for part in self.parts])

    def sign(self):
        """Return 1, -1 or 0: the sign of the first part that is not zero."""
        for part in self.parts:
            if part:
                return 1 if part > 0 else -1
        return 0

    def __repr__(self):
        return f"Tall({self.parts})"

    def __bool__(self):
        return bool(self.sign())

    def __neg__(self):
        return Tall([-part for part in self.parts])

    def __add__(self, other):
        if not isinstance(other, Tall):
            return NotImplemented
        check_like(self, other)
        return Tall([a + b for a, b in zip(self.parts, other.parts)])

    def __sub__(self, other):
        if not isinstance(other, Tall):
            return NotImplemented
        check_like(self, other)
        return Tall([a - b for a, b in zip(self.parts, other.parts)])

    def __mul__(self, other):
        if not isinstance(other, (int, Frac)):
            return NotImplemented
        return Tall([part * other for part in self.parts])

    def __rmul__(self, other):
        return self * other

    def __eq__(self, other):
        if not isinstance(other, Tall):
            return NotImplemented
        return self.parts == other.parts

    def __ne__(self, other):
        return not self == other

    def __lt__(self, other):
        if not isinstance(other, Tall):
            return NotImplemented
        check_like(self, other)
        return self.parts < other.parts

    def __le__(self, other):
        if not isinstance(other, Tall):
            return NotImplemented
        check_like(self, other)
        return self.parts <= other.parts

    def __gt__(self, other):
        if not isinstance(other, Tall):
            return NotImplemented
        check_like(self, other)
        return self.parts > other.parts

    def __ge__(self, other):
        if not isinstance(other, Tall):
            return NotImplemented
        check_like(self, other)
        return self.parts >= other.parts
