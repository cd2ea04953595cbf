"""Point 27: problems in which one thing is changed."""

import unittest

from bestpapers.changes import (
    first_aims, relaxed, with_aims, with_coefficient, with_ends, with_pull, with_right, with_rows,
    with_whole, without_row,
)
from bestpapers.errors import (
    BadCount, BadPull, Crossed, NoAim, NoEnd, NoName, NotWhole, SameName, TooWide, WrongWidth,
)
from bestpapers.fracs import Frac
from bestpapers.problems import Problem
from bestpapers.rows import Aim, Row
from bestpapers.variables import Variable
from tests.helpers import HUGE, fault, picture, sample, shape, variables

STRANGE = ("", "q", "xx", "X", "x ", "var")


class Changing(unittest.TestCase):
    def setUp(self):
        self.problem = sample()
        self.before = picture(sample())

    def tearDown(self):
        self.assertEqual(picture(self.problem), self.before)

    def check(self, found, variables=(), rows=(), aims=None):
        """Compare a problem with the sample in which some entries are others."""
        expected = picture(sample())
        for at, entry in variables:
            expected[0][at] = entry
        for at, entry in rows:
            expected[1][at] = entry
        if aims is not None:
            expected = (expected[0], expected[1], aims)
        self.assertEqual(found.__class__, Problem)
        self.assertEqual(picture(found), expected)
        self.assertEqual((found.n, found.m), (len(expected[0]), len(expected[1])))


class Rows(Changing):
    def test_with_rows(self):
        first, second = Row("d", [1, 0, 0], "<=", 1), Row("e", (0, 1, 1), "=", 2)
        found = with_rows(self.problem, first, second)
        self.assertEqual([row.name for row in found.rows], ["a", "b", "c", "d", "e"])
        self.assertEqual((found.rows[3], found.rows[4], found.m), (first, second, 5))
        self.assertEqual(picture(found)[0::2], self.before[0::2])
        self.check(with_rows(self.problem))

    def test_with_rows_errors(self):
        good, narrow = Row("d", [1, 0, 0], "<=", 1), Row("e", [1], "<=", 1)
        for name in ("a", "x"):
            twice = Row(name, [1], "<=", 1)
            self.assertEqual(fault(with_rows, self.problem, good, twice), (SameName, {"name": name}))
        self.assertEqual(fault(with_rows, self.problem, good, good), (SameName, {"name": "d"}))
        expected = (WrongWidth, {"have": 1, "need": 3})
        self.assertEqual(fault(with_rows, self.problem, good, narrow), expected)
        many = [Row(f"r{at}", [1], "<=", 1) for at in range(14)]
        expected = (BadCount, {"what": "rows", "many": 17})
        self.assertEqual(fault(with_rows, self.problem, *many), expected)
        many = [Row(f"r{at}", [1, 0, 0], "<=", 1) for at in range(13)]
        self.assertEqual(with_rows(self.problem, *many).m, 16)

    def test_without_row(self):
        for at, name in enumerate("abc"):
            found = without_row(self.problem, name)
            rows = [row for row in self.before[1] if row[0] != name]
            self.assertEqual(picture(found), (self.before[0], rows, self.before[2]))
            self.assertEqual(found.m, 2)
            self.assertNotIn(name, found)
        last = without_row(Problem(variables(1), [Row("r", [1], "=", 1)]), "r")
        self.assertEqual(last.rows, ())

    def test_with_right(self):
        for right in (7, Frac(7), -HUGE, Frac(1, 3)):
            found = with_right(self.problem, "b", right)
            self.check(found, rows=[(1, ("b", (0, Frac(1, 3), -1), ">=", right))])
            self.assertEqual(shape(found.rows[1].right), "Frac")
        self.check(with_right(self.problem, "c", 0), rows=[(2, ("c", (2, 0, 1), "=", 0))])

    def test_with_coefficient(self):
        found = with_coefficient(self.problem, "a", "z", 9)
        self.check(found, rows=[(0, ("a", (1, 2, 9), "<=", 6))])
        self.assertEqual(shape(found.rows[0].coefficients), ("tuple", ["Frac"] * 3))
        found = with_coefficient(self.problem, "c", "x", Frac(-1, 2))
        self.check(found, rows=[(2, ("c", (Frac(-1, 2), 0, 1), "=", Frac(5, 2)))])
        found = with_coefficient(self.problem, "b", "y", 0)
        self.check(found, rows=[(1, ("b", (0, 0, -1), ">=", -4))])

    def test_strange_names(self):
        for name in STRANGE + ("x", "y", "z"):
            expected = (NoName, {"name": name})
            self.assertEqual(fault(without_row, self.problem, name), expected)
            self.assertEqual(fault(with_right, self.problem, name, 1), expected)
            self.assertEqual(fault(with_coefficient, self.problem, name, "x", 1), expected)
            self.assertEqual(fault(with_coefficient, self.problem, name, "q", 1), expected)
        for name in STRANGE + ("a", "b", "c"):
            expected = (NoName, {"name": name})
            self.assertEqual(fault(with_coefficient, self.problem, "a", name, 1), expected)


class Variables(Changing):
    def test_with_ends(self):
        self.check(with_ends(self.problem, "x", 1, 4), [(0, ("x", 1, 4, True, "down"))])
        self.check(with_ends(self.problem, "y", Frac(1, 2), 3), [(1, ("y", Frac(1, 2), 3, False, "down"))])
        found = with_ends(self.problem, "z", -5, 5)
        self.check(found, [(2, ("z", -5, 5, False, "up"))])
        self.assertEqual(shape(found.variables[2].low), "Frac")
        self.check(with_ends(self.problem, "z", None, -5), [(2, ("z", None, -5, False, "up"))])

    def test_pull_must_change(self):
        self.check(with_ends(self.problem, "y", None, 3), [(1, ("y", None, 3, False, "up"))])
        self.check(with_ends(self.problem, "z", 3, None), [(2, ("z", 3, None, False, "down"))])

    def test_pull_stays(self):
        problem = Problem([Variable("x", 0, 5, pull="up"), Variable("y", 0, 5, pull="down")])
        for name in ("x", "y"):
            pull = problem[name].pull
            self.assertEqual(with_ends(problem, name, 1, 2)[name].pull, pull)
        self.assertEqual(with_ends(problem, "x", None, 2)["x"].pull, "up")
        self.assertEqual(with_ends(problem, "x", 1, None)["x"].pull, "down")
        self.assertEqual(with_ends(problem, "y", 1, None)["y"].pull, "down")
        self.assertEqual(with_ends(problem, "y", None, 2)["y"].pull, "up")
        zero = with_ends(problem, "x", -1, 0)["x"]
        self.assertEqual((zero.low, zero.high, zero.pull), (-1, 0, "up"))

    def test_with_ends_errors(self):
        self.assertEqual(fault(with_ends, self.problem, "y", None, None), (NoEnd, {"name": "y"}))
        self.assertEqual(fault(with_ends, self.problem, "x", None, None), (NoEnd, {"name": "x"}))
        self.assertEqual(fault(with_ends, self.problem, "y", 2, 1), (Crossed, {"name": "y"}))
        for low, high in ((0, None), (None, 0), (Frac(1, 2), 3), (0, Frac(7, 2))):
            self.assertEqual(fault(with_ends, self.problem, "x", low, high), (NotWhole, {"name": "x"}))
        self.assertEqual(fault(with_ends, self.problem, "x", 0, 41), (TooWide, {"width": 41, "many": 42}))
        self.assertEqual(with_ends(self.problem, "x", 0, 40).spread, 40)

    def test_with_whole(self):
        self.check(with_whole(self.problem, "x", False), [(0, ("x", 0, 5, False, "down"))])
        self.check(with_whole(self.problem, "x", True))
        self.check(with_whole(self.problem, "y", False))
        problem = Problem([Variable("x", 0, 2, pull="up"), Variable("y", 0, 9)])
        found = with_whole(problem, "x", True)
        self.assertEqual(picture(found)[0], [("x", 0, 2, True, "up"), ("y", 0, 9, False, "down")])
        self.assertEqual(with_whole(found, "x", False)["x"].pull, "up")

    def test_with_whole_errors(self):
        for name in ("y", "z"):
            expected = (NotWhole, {"name": name})
            self.assertEqual(fault(with_whole, self.problem, name, True), expected)
        problem = Problem([Variable("x", 0, 20), Variable("y", 0, 21, whole=True)])
        expected = (TooWide, {"width": 41, "many": 21 * 22})
        self.assertEqual(fault(with_whole, problem, "x", True), expected)

    def test_with_pull(self):
        self.check(with_pull(self.problem, "x", "up"), [(0, ("x", 0, 5, True, "up"))])
        self.check(with_pull(self.problem, "x", "down"))
        self.check(with_pull(self.problem, "z", None))
        problem = with_pull(self.problem, "x", "up")
        self.check(with_pull(problem, "x", None))

    def test_with_pull_errors(self):
        for name, pull in (("y", "up"), ("z", "down"), ("x", "left"), ("x", "")):
            self.assertEqual(fault(with_pull, self.problem, name, pull), (BadPull, {"name": name}))

    def test_strange_names(self):
        for name in STRANGE + ("a", "b", "c"):
            expected = (NoName, {"name": name})
            self.assertEqual(fault(with_ends, self.problem, name, 2, 1), expected)
            self.assertEqual(fault(with_ends, self.problem, name, None, None), expected)
            self.assertEqual(fault(with_whole, self.problem, name, True), expected)
            self.assertEqual(fault(with_pull, self.problem, name, "left"), expected)

    def test_relaxed(self):
        self.check(relaxed(self.problem), [(0, ("x", 0, 5, False, "down"))])
        problem = Problem([Variable("x", 0, 2, whole=True, pull="up"), Variable("y", 0, 2, pull="up"),
                           Variable("z", 1, 3, whole=True)], [Row("r", [1, 2, 3], "=", 4)])
        found = relaxed(problem)
        self.assertEqual(picture(found)[0], [("x", 0, 2, False, "up"), ("y", 0, 2, False, "up"),
                                             ("z", 1, 3, False, "down")])
        self.assertEqual(picture(found)[1:], picture(problem)[1:])
        self.assertEqual([variable.whole for variable in problem.variables], [True, False, True])


class Aims(Changing):
    def test_with_aims(self):
        aims = [Aim("max", [1, 2, 3], 4)]
        found = with_aims(self.problem, aims)
        self.check(found, aims=[("max", (1, 2, 3), 4)])
        aims.append(None)
        self.check(found, aims=[("max", (1, 2, 3), 4)])
        for none in ((), []):
            self.check(with_aims(self.problem, none), aims=[])

    def test_with_aims_errors(self):
        good, narrow = Aim("min", [1, 1, 1]), Aim("min", [1, 1])
        expected = (BadCount, {"what": "aims", "many": 4})
        self.assertEqual(fault(with_aims, self.problem, [narrow] * 4), expected)
        expected = (WrongWidth, {"have": 2, "need": 3})
        self.assertEqual(fault(with_aims, self.problem, (good, narrow)), expected)

    def test_first_aims(self):
        for many in (0, 1, 2):
            self.check(first_aims(self.problem, many), aims=self.before[2][:many])

    def test_no_aim(self):
        for many in (-1, -2, 3, 4, HUGE, -HUGE):
            self.assertEqual(fault(first_aims, self.problem, many), (NoAim, {"aim": many}))
        bare = Problem(variables(1))
        self.assertEqual(first_aims(bare, 0).aims, ())
        self.assertEqual(fault(first_aims, bare, 1), (NoAim, {"aim": 1}))


if __name__ == "__main__":
    unittest.main()
