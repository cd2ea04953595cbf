"""Point 45: factors."""

import itertools
import random
import unittest

from bestpapers.errors import BadCount, NoItem, WrongWidth
from bestpapers.factors import Factors
from bestpapers.fracs import Frac
from bestpapers.refusals import Dependent
from bestpapers.tall import Tall
from tests.algebra import determinant, first_dependent, plain, some_row
from tests.helpers import HUGE, fault, shape

HALF = Frac(1, 2)


def unit(n):
    return [[int(k == at) for k in range(n)] for at in range(n)]


def combined(numbers, rows):
    """The sum of number times row."""
    return [sum(plain(t) * plain(row[k]) for t, row in zip(numbers, rows)) for k in range(len(rows[0]))]


def sums(rows, numbers):
    return [sum(plain(a) * plain(x) for a, x in zip(row, numbers)) for row in rows]


class Making(unittest.TestCase):
    def test_counts(self):
        for many in (0, 17, 18):
            self.assertEqual(fault(Factors, unit(many)), (BadCount, {"what": "rows", "many": many}))
        for many in (1, 2, 15, 16):
            self.assertIsNone(fault(Factors, unit(many)))

    def test_count_before_width(self):
        self.assertEqual(fault(Factors, [[1]] * 17), (BadCount, {"what": "rows", "many": 17}))

    def test_width_of_the_first_wrong_row(self):
        for row in ([], [1], [1, 2], [1, 2, 3, 4]):
            rows = [[0, 0, 0], row, [1]]
            self.assertEqual(fault(Factors, rows), (WrongWidth, {"have": len(row), "need": 3}))

    def test_dependent_rows(self):
        for rows, at in (
            ([[0]], 0),
            ([[0, 0], [1, 1]], 0),
            ([[1, 1], [0, 0]], 1),
            ([[1, 2], [Frac(-1, 2), -1]], 1),
            ([[1, 0, 1], [0, 1, 1], [2, -3, -1]], 2),
            ([[1, 0, 1], [2, 0, 2], [0, 0, 0]], 1),
            ([[0, 0, 1], [0, 1, 0], [0, HALF, 3]], 2),
            ([[HUGE, 1], [HUGE * HUGE, HUGE]], 1),
        ):
            self.assertEqual(fault(Factors, rows), (Dependent, {"at": at}), rows)

    def test_against_ranks(self):
        chance = random.Random(45)
        dependent = 0
        for _ in range(400):
            n = chance.randint(1, 4)
            rows = [some_row(chance, n, 1) for _ in range(n)]
            at = first_dependent(rows)
            dependent += at is not None
            self.assertEqual(fault(Factors, rows), None if at is None else (Dependent, {"at": at}))
        self.assertGreater(dependent, 50)


class Solving(unittest.TestCase):
    def setUp(self):
        chance = random.Random(46)
        self.samples = []
        while len(self.samples) < 120:
            n = chance.randint(1, 5)
            rows = [some_row(chance, n) for _ in range(n)]
            if first_dependent(rows) is None:
                self.samples.append((chance, rows, Factors(rows)))

    def test_solve_row(self):
        for chance, rows, factors in self.samples:
            row = some_row(chance, len(rows), 9)
            found = factors.solve_row(row)
            self.assertEqual(shape(found), ("tuple", ["Frac"] * len(rows)))
            self.assertEqual(combined(found, rows), [plain(number) for number in row])

    def test_solve_column(self):
        for chance, rows, factors in self.samples:
            column = tuple(some_row(chance, len(rows), 9))
            found = factors.solve_column(column)
            self.assertEqual(shape(found), ("tuple", ["Frac"] * len(rows)))
            self.assertEqual(sums(rows, found), [plain(number) for number in column])

    def test_solve_column_of_talls(self):
        for chance, rows, factors in self.samples:
            many = chance.randint(1, 4)
            column = [Tall(some_row(chance, many)) for _ in rows]
            found = factors.solve_column(column)
            self.assertEqual(shape(found), ("tuple", ["Tall"] * len(rows)))
            for at in range(many):
                parts = [entry.parts[at] for entry in found]
                self.assertEqual(sums(rows, parts), [plain(entry.parts[at]) for entry in column])

    def test_determinant(self):
        for _, rows, factors in self.samples:
            self.assertEqual(plain(factors.determinant), determinant(rows))
            self.assertEqual(shape(factors.determinant), "Frac")

    def test_determinant_in_every_order(self):
        rows = [[2, 0, 1], [0, HALF, 0], [1, 1, 3]]
        for order in itertools.permutations(range(3)):
            turned = [rows[at] for at in order]
            self.assertEqual(plain(Factors(turned).determinant), determinant(turned))
        self.assertEqual(Factors([[0, 1], [1, 0]]).determinant, -1)
        self.assertEqual(Factors([[Frac(1, 3)]]).determinant, Frac(1, 3))

    def test_replaced(self):
        for chance, rows, factors in self.samples:
            for at in range(len(rows)):
                row = some_row(chance, len(rows))
                changed = rows[:at] + [row] + rows[at + 1:]
                if first_dependent(changed) is not None:
                    self.assertEqual(fault(factors.replaced, at, row), (Dependent, {"at": at}))
                    continue
                other = factors.replaced(at, row)
                self.assertEqual(plain(other.determinant), determinant(changed))
                self.assertEqual(combined(other.solve_row(rows[at]), changed), [plain(a) for a in rows[at]])
                self.assertEqual(plain(factors.determinant), determinant(rows))
                self.assertEqual(combined(factors.solve_row(row), rows), [plain(a) for a in row])

    def test_sixteen_rows(self):
        chance = random.Random(47)
        rows = [some_row(chance, 16) for _ in range(16)]
        for at in range(16):
            rows[at][at] = 20
        factors = Factors(rows)
        row = some_row(chance, 16)
        self.assertEqual(combined(factors.solve_row(row), rows), [plain(number) for number in row])
        other = factors.replaced(7, row[:7] + [30] + row[8:])
        self.assertEqual(sums(rows[:7], other.solve_column(row)), [plain(number) for number in row[:7]])


class Refusals(unittest.TestCase):
    def setUp(self):
        self.factors = Factors([[1, 2, 0], [0, 1, 0], [0, 0, HALF]])

    def test_widths(self):
        for many in (0, 2, 4):
            expected = (WrongWidth, {"have": many, "need": 3})
            self.assertEqual(fault(self.factors.solve_row, [1] * many), expected)
            self.assertEqual(fault(self.factors.solve_column, [1] * many), expected)
            self.assertEqual(fault(self.factors.solve_column, [Tall.far(1)] * many), expected)
            self.assertEqual(fault(self.factors.replaced, 1, [0] * many), expected)

    def test_places(self):
        for at in (-4, -1, 3, 4):
            for row in ([0], [0, 0, 0], [1, 1, 1]):
                self.assertEqual(fault(self.factors.replaced, at, row), (NoItem, {"at": at}))

    def test_dependent(self):
        for at, row in ((0, [0, 0, 0]), (1, [3, 6, 0]), (2, [1, 1, 0]), (0, [0, 7, 7])):
            self.assertEqual(fault(self.factors.replaced, at, row), (Dependent, {"at": at}))

    def test_lists_that_change_later(self):
        rows = [[1, 0], [0, 1]]
        factors = Factors(rows)
        rows[0][0] = 5
        rows[1] = [7, 7]
        row = [1, 1]
        other = factors.replaced(0, row)
        row[0] = 9
        self.assertEqual((factors.determinant, other.determinant), (1, 1))
        self.assertEqual(factors.solve_row([3, 4]), (3, 4))
        self.assertEqual(other.solve_row([3, 4]), (3, 1))


if __name__ == "__main__":
    unittest.main()
