"""Exact fractions."""

from math import gcd

from bestpapers.errors import BadNumber, DivisionByZero


def as_frac(number):
    """Return a number, an integer or a Frac, as a Frac."""
    if isinstance(number, int):
        return Frac(number)
    return number


def gap(left, right):
    """Return an integer that has the sign of the Frac left minus the number right."""
    other = as_frac(right)
    return left.num * other.den - other.num * left.den


def are_figures(text):
    """Tell whether a text is 1 to 40 digits."""
    return 1 <= len(text) <= Frac.MOST_FIGURES and text.isdigit()


class Frac:
    """A fraction of two integers in lowest terms; it never changes."""

    MOST_FIGURES = 40

    def __init__(self, num=0, den=1):
        if den == 0:
            raise DivisionByZero()
        common = gcd(num, den)
        if den < 0:
            common = -common
        self.num = num // common
        self.den = den // common

    @staticmethod
    def read(text):
        """Return the Frac whose written form is the text."""
        top, slash, bottom = text.partition("/")
        if not are_figures(top.removeprefix("-")):
            raise BadNumber(text)
        if slash and (not are_figures(bottom) or bottom.startswith("0")):
            raise BadNumber(text)
        number = Frac(int(top), int(bottom) if slash else 1)
        # One number can be spelled in many ways, but only one is its written form.
        if str(number) != text:
            raise BadNumber(text)
        return number

    def over(self, other):
        """Return the exact quotient by a number."""
        right = as_frac(other)
        return Frac(self.num * right.den, self.den * right.num)

    def floor(self):
        """Return the greatest integer that is not above this number."""
        return self.num // self.den

    def ceiling(self):
        """Return the least integer that is not below this number."""
        return -(-self.num // self.den)

    @property
    def is_whole(self):
        """True if the denominator is 1."""
        return self.den == 1

    def __str__(self):
        if self.den == 1:
            return str(self.num)
        return f"{self.num}/{self.den}"

    def __repr__(self):
        return f"Frac({self.num}, {self.den})"

    def __bool__(self):
        return bool(self.num)

    def __neg__(self):
        return Frac(-self.num, self.den)

    def __abs__(self):
        return Frac(abs(self.num), self.den)

    def __add__(self, other):
        if not isinstance(other, (int, Frac)):
            return NotImplemented
        right = as_frac(other)
        return Frac(self.num * right.den + right.num * self.den, self.den * right.den)

    def __radd__(self, other):
        return self + other

    def __sub__(self, other):
        if not isinstance(other, (int, Frac)):
            return NotImplemented
        right = as_frac(other)
        return Frac(self.num * right.den - right.num * self.den, self.den * right.den)

    def __rsub__(self, other):
        return -self + other

    def __mul__(self, other):
        if not isinstance(other, (int, Frac)):
            return NotImplemented
        right = as_frac(other)
        return Frac(self.num * right.num, self.den * right.den)

    def __rmul__(self, other):
        return self * other

    def __floordiv__(self, other):
        if not isinstance(other, (int, Frac)):
            return NotImplemented
        return self.over(other).floor()

    def __rfloordiv__(self, other):
        if not isinstance(other, int):
            return NotImplemented
        return Frac(other) // self

    def __mod__(self, other):
        if not isinstance(other, (int, Frac)):
            return NotImplemented
        return self - other * (self // other)

    def __rmod__(self, other):
        if not isinstance(other, int):
            return NotImplemented
        return Frac(other) % self

    def __pow__(self, other):
        if not isinstance(other, int):
            return NotImplemented
        num = 1
        den = 1
        for _ in range(other):
            num = num * self.num
            den = den * self.den
        return Frac(num, den)

    def __eq__(self, other):
        if not isinstance(other, (int, Frac)):
            return NotImplemented
        right = as_frac(other)
        return self.num == right.num and self.den == right.den

    def __ne__(self, other):
        return not self == other

    def __lt__(self, other):
        if not isinstance(other, (int, Frac)):
            return NotImplemented
        return gap(self, other) < 0

    def __le__(self, other):
        if not isinstance(other, (int, Frac)):
            return NotImplemented
        return gap(self, other) <= 0

    def __gt__(self, other):
        if not isinstance(other, (int, Frac)):
            return NotImplemented
        return gap(self, other) > 0

    def __ge__(self, other):
        if not isinstance(other, (int, Frac)):
            return NotImplemented
        return gap(self, other) >= 0
