"""Linear algebra of the tests' own, and problems that chance makes."""

from fractions import Fraction

from bestpapers.fracs import Frac
from bestpapers.problems import Problem
from bestpapers.rows import Aim, Row
from bestpapers.variables import Variable


def plain(number):
    """A number, an integer or a Frac, as a Fraction."""
    return Fraction(number) if isinstance(number, int) else Fraction(number.num, number.den)


def plains(numbers):
    return [plain(number) for number in numbers]


def rank(rows):
    rows = [plains(row) for row in rows]
    done = 0
    for at in range(len(rows[0]) if rows else 0):
        pivot = next((k for k in range(done, len(rows)) if rows[k][at]), None)
        if pivot is None:
            continue
        rows[done], rows[pivot] = rows[pivot], rows[done]
        for k in range(done + 1, len(rows)):
            part = rows[k][at] / rows[done][at]
            rows[k] = [a - part * b for a, b in zip(rows[k], rows[done])]
        done += 1
    return done


def determinant(rows):
    """The determinant, row by row."""
    if not rows:
        return Fraction(1)
    total, rest = Fraction(0), rows[1:]
    for at, number in enumerate(rows[0]):
        if number:
            total += (-1) ** at * plain(number) * determinant([row[:at] + row[at + 1:] for row in rest])
    return total


def first_dependent(rows):
    """The index of the first row that is a sum of multiples of those before it, or None."""
    for at in range(len(rows)):
        if rank(rows[:at + 1]) == at:
            return at
    return None


def same(numbers, row):
    return plains(numbers) == plains(row)


def some_number(chance, most=3):
    number = chance.randint(-most, most)
    return chance.choice((number, number, Frac(number), Frac(number, chance.randint(1, 4))))


def some_row(chance, n, most=3):
    """A row in which every third number is zero."""
    return [chance.choice((0, some_number(chance, most), some_number(chance, most))) for _ in range(n)]


def some_variable(chance, name, whole=False):
    """A variable with two ends, with one, or fixed."""
    low = chance.randint(-2, 1)
    high = low + chance.randint(0, 3)
    if whole:
        return Variable(name, low, high, whole=True, pull=chance.choice(("up", "down")))
    kind = chance.randint(0, 5)
    if kind == 0:
        return Variable(name, low, None)
    if kind == 1:
        return Variable(name, None, high)
    return Variable(name, Frac(low, 1), Frac(2 * high + 1, 2) if kind == 2 else high,
                    pull=chance.choice(("up", "down")))


def some_mixed(chance, most=4, rows=4, aims=2, whole=0):
    """A problem; every variable is whole with a chance of whole in ten."""
    n = chance.randint(1, most)
    items = [some_variable(chance, f"x{at}", chance.randint(0, 9) < whole) for at in range(n)]
    parts = [Row(f"r{at}", some_row(chance, n), chance.choice(("<=", ">=", "=", "<=", ">=")),
                 some_number(chance)) for at in range(chance.randint(0, rows))]
    wishes = [Aim(chance.choice(("min", "max")), some_row(chance, n), chance.randint(-2, 2))
              for _ in range(chance.randint(0, aims))]
    return Problem(items, parts, wishes)


def solved(rows, rights):
    """The numbers with which independent rows have these sums, as Fractions."""
    n = len(rows)
    lines = [plains(row) + [plain(right)] for row, right in zip(rows, rights)]
    for at in range(n):
        pivot = next(k for k in range(at, n) if lines[k][at])
        lines[at], lines[pivot] = lines[pivot], lines[at]
        lines[at] = [number / lines[at][at] for number in lines[at]]
        for k in range(n):
            if k != at and lines[k][at]:
                part = lines[k][at]
                lines[k] = [a - part * b for a, b in zip(lines[k], lines[at])]
    return [line[n] for line in lines]


def fracs(numbers):
    return tuple(Frac(number.numerator, number.denominator) for number in numbers)
