"""Point 76: how the best value of the first aim follows a right side."""

import random
import unittest

from bestpapers.changes import first_aims, with_aims, with_right
from bestpapers.errors import BadCount, Crossed, NoAim, NoName
from bestpapers.fracs import Frac
from bestpapers.judging import shows
from bestpapers.problems import Problem
from bestpapers.refusals import IsWhole, NoTold
from bestpapers.rows import Aim, Row
from bestpapers.solving import solve
from bestpapers.sweeps import sweep
from bestpapers.variables import Variable
from tests.algebra import some_mixed
from tests.helpers import HUGE, fault, picture, shape, variables
from tests.plain_presolver import nested

TINY = Frac(1, 10 ** 9)


def sample(sense="<=", aims=(Aim("max", [3, 2]),)):
    """The best value bends where x, and then y, comes to its high end."""
    return Problem([Variable("x", 0, 2), Variable("y", 0, 3)], [Row("k", [0, 0], "<=", 1), Row("r", [1, 1], sense, 4)], aims)


class Sweeps(unittest.TestCase):
    def check(self, problem, name, low, high, expected=None):
        """Sweep, and look at all that holds for every sweep; expected are start, end, value, slope."""
        before = picture(problem)
        pieces = sweep(problem, name, low, high)
        self.assertEqual(picture(problem), before)
        self.assertEqual(pieces.__class__, list)
        for piece in pieces:
            self.assertEqual(shape(piece), ("tuple", ["Frac"] * 4 + [("tuple", ["Frac"] * problem.m)]))
            self.check_piece(problem, name, piece)
        if expected is not None:
            self.assertEqual([piece[:4] for piece in pieces], expected)
        self.check_joints(problem, pieces)
        self.check_outside(problem, name, low, high, pieces)
        return pieces

    def check_piece(self, problem, name, piece):
        start, end, value, slope, prices = piece
        sign = 1 if problem.aims[0].sense == "min" else -1
        at = [row.name for row in problem.rows].index(name)
        self.assertEqual(slope, sign * prices[at])
        for part in (0, Frac(1, 7), Frac(1, 2), 1):
            right = start + (end - start) * part
            best = value + slope * (right - start)
            moved = first_aims(with_right(problem, name, right), 1)
            self.assertEqual(solve(moved).totals, (best,))
            self.assertTrue(shows(with_right(problem, name, right), (sign * best,), ("floors", (((), prices),))))

    def check_joints(self, problem, pieces):
        sign = 1 if problem.aims and problem.aims[0].sense == "min" else -1
        for first, second in zip(pieces, pieces[1:]):
            self.assertEqual(first[1], second[0])
            self.assertLess(sign * first[3], sign * second[3])
            self.assertEqual(first[2] + first[3] * (first[1] - first[0]), second[2])
        for piece in pieces:
            self.assertTrue(piece[0] < piece[1] or len(pieces) == 1)

    def check_outside(self, problem, name, low, high, pieces):
        """All other right sides from low to high make the problem empty."""
        rights = [Frac(1) * low, Frac(1) * high]
        if pieces:
            self.assertTrue(low <= pieces[0][0] and pieces[-1][1] <= high)
            rights += [pieces[0][0] - TINY, pieces[-1][1] + TINY]
        for right in rights:
            inside = bool(pieces) and pieces[0][0] <= right <= pieces[-1][1]
            if low <= right <= high and not inside:
                self.assertEqual(solve(with_right(problem, name, right)).kind, "empty")

    def test_several_pieces(self):
        whole = [(0, 2, 0, 3), (2, 5, 6, 2), (5, 9, 12, 0)]
        self.check(sample(), "r", -5, 9, whole)
        self.check(sample(), "r", 1, 4, [(1, 2, 3, 3), (2, 4, 6, 2)])
        self.check(sample(), "r", 2, 5, [(2, 5, 6, 2)])
        self.check(sample(), "r", Frac(1, 2), Frac(3, 2), [(Frac(1, 2), Frac(3, 2), Frac(3, 2), 3)])

    def test_min(self):
        problem = sample(">=", [Aim("min", [3, 2], -1)])
        self.check(problem, "r", -5, 9, [(-5, 0, -1, 0), (0, 3, -1, 2), (3, 5, 5, 3)])
        self.check(problem, "r", 4, HUGE, [(4, 5, 8, 3)])

    def test_equations(self):
        self.check(sample("=", [Aim("min", [3, 2])]), "r", -9, 9, [(0, 3, 0, 2), (3, 5, 6, 3)])
        self.check(sample("="), "r", -9, 9, [(0, 2, 0, 3), (2, 5, 6, 2)])

    def test_one_right_side(self):
        for right in (1, Frac(7, 2)):
            for sense in ("<=", ">=", "="):
                pieces = self.check(sample(sense), "r", right, right)
                self.assertEqual([piece[:2] for piece in pieces], [(right, right)])
        for low, high in ((-4, 0), (-4, Frac(0))):
            pieces = self.check(sample("="), "r", low, high)
            self.assertEqual([piece[:3] for piece in pieces], [(0, 0, 0)])

    def test_none(self):
        self.check(sample(), "r", -5, -1, [])
        self.check(sample("="), "r", 6, 8, [])
        self.check(sample(">="), "r", 6, 6, [])
        none = Problem(sample().variables, [Row("k", [1, 0], ">=", 9), Row("r", [1, 1], "<=", 3)], [Aim("min", [1, 1])])
        self.check(none, "r", 0, 9, [])

    def test_no_aim_that_moves(self):
        self.check(sample("<=", [Aim("max", [0, 0], 7)]), "r", -1, 9, [(0, 9, 7, 0)])

    def test_a_row_of_zeros(self):
        self.check(sample(), "k", -3, 5, [(0, 5, 10, 0)])

    def test_later_aims_have_no_effect(self):
        for other in (Aim("min", [5, 1]), Aim("max", [-1, 2], 3)):
            problem = sample(aims=[Aim("max", [3, 2]), other])
            self.check(problem, "r", -5, 9, [(0, 2, 0, 3), (2, 5, 6, 2), (5, 9, 12, 0)])
        loose = Problem([Variable("x", 0, 4), Variable("y")], [Row("r", [1, 0], "<=", 3)], [Aim("min", [1, 0]), Aim("max", [0, 1])])
        self.check(loose, "r", -1, 2, [(0, 2, 0, 0)])

    def test_equal_slopes_are_one_piece(self):
        problem = Problem([Variable("x", 0, 2), Variable("y", 0, 3)], [Row("r", [1, 1], ">=", 4), Row("s", [1, 2], ">=", 1)], [Aim("min", [1, 1])])
        self.check(problem, "r", 2, 5, [(2, 5, 2, 1)])

    def test_fractions(self):
        problem = Problem([Variable("x", 0, Frac(1, 3)), Variable("y", Frac(1, 7), None)], [Row("r", [Frac(2, 3), 5], "=", 4)], [Aim("max", [1, Frac(-1, 2)], 6)])
        pieces = self.check(problem, "r", -HUGE, HUGE)
        self.assertEqual(len(pieces), 2)

    def test_many_pieces(self):
        problem = Problem([Variable(f"x{at}", 0, at + 1) for at in range(6)], [Row("r", [1, 2, 1, 3, 1, 1], ">=", 5)], [Aim("min", [1, 3, 4, 20, 9, 2])])
        self.assertGreater(len(self.check(problem, "r", -3, 99)), 5)

    def test_chance(self):
        chance = random.Random(76)
        counts = {}
        for problem in [some_mixed(chance, 4, 4) for _ in range(250)] + nested(76, 350, whole=0, rich=True):
            if not problem.rows or not problem.aims:
                continue
            row = chance.choice(problem.rows)
            low = chance.randint(-7, 3)
            high = low + chance.choice((0, 1, 15, Frac(17, 2)))
            found = [solve(first_aims(with_right(problem, row.name, right), 1)).kind for right in (low, high)]
            error = fault(sweep, problem, row.name, low, high)
            if error:
                self.assertEqual(error, (NoTold, {"kind": "endless"}))
                counts["endless"] = counts.get("endless", 0) + 1
                continue
            self.assertNotIn("endless", found)
            many = len(self.check(problem, row.name, low, high))
            for key in ((problem.aims[0].sense, min(many, 2)), row.sense):
                counts[key] = counts.get(key, 0) + 1
        self.assertEqual(len(counts), 10, counts)
        self.assertGreater(min(counts.values()), 4, counts)


class Errors(unittest.TestCase):
    def check(self, problem, values, error, **attributes):
        self.assertEqual(fault(sweep, problem, *values), (error, attributes))

    def wide(self, many, aims=True, whole=None):
        items = variables(many - 1) + [Variable("z", 0, 1, whole=whole == "z")]
        return Problem(items, [Row("r", [1] * many, "<=", 4)], [Aim("max", [1] * many)] if aims else [])

    def test_names_first(self):
        for problem in (sample(), self.wide(16, False, "z"), self.wide(3)):
            for name in ("x0", "q", "", "y"):
                for low, high in ((1, 2), (2, 1)):
                    self.check(problem, (name, low, high), NoName, name=name)

    def test_crossed_before_whole(self):
        for problem in (sample(), self.wide(16, False, "z")):
            for low, high in ((2, 1), (Frac(1, 2), Frac(1, 3)), (HUGE, -HUGE)):
                self.check(problem, ("r", low, high), Crossed, name="r")

    def test_whole_before_aims(self):
        for problem in (self.wide(16, False, "z"), self.wide(16, True, "z"), self.wide(2, False, "z")):
            self.check(problem, ("r", 1, 2), IsWhole, name="z")
        items = [Variable("a", 0, 1), Variable("b", 0, 1, whole=True), Variable("c", 0, 1, whole=True)]
        self.check(Problem(items, [Row("r", [1, 1, 1], "<=", 4)]), ("r", 1, 2), IsWhole, name="b")

    def test_aims_before_variables(self):
        self.check(self.wide(16, False), ("r", 1, 2), NoAim, aim=0)
        self.check(self.wide(2, False), ("r", 1, 2), NoAim, aim=0)

    def test_variables_before_endless(self):
        endless = Problem(variables(16), [Row("r", [1] + [-1] * 15, "<=", 4)], [Aim("max", [1] * 16)])
        self.check(endless, ("r", 1, 2), BadCount, what="variables", many=17)
        self.check(self.wide(16), ("r", -2, -1), BadCount, what="variables", many=17)
        self.assertIsNone(fault(sweep, self.wide(15), "r", 1, 2))

    def test_endless(self):
        problem = Problem([Variable("x"), Variable("y")], [Row("r", [1, -1], "<=", 1)], [Aim("max", [1, 0])])
        self.check(problem, ("r", -5, 5), NoTold, kind="endless")
        turned = with_aims(problem, [Aim("min", [1, 0]), Aim("max", [1, 0])])
        self.assertIsNone(fault(sweep, turned, "r", -5, 5))

    def test_endless_for_some_right_sides(self):
        """Where there is no point, nothing is endless."""
        problem = Problem([Variable("x"), Variable("y", 0, 3)], [Row("r", [0, 1], ">=", 1)], [Aim("max", [1, 0])])
        self.check(problem, ("r", 3, 9), NoTold, kind="endless")
        self.assertEqual(sweep(problem, "r", Frac(7, 2), 9), [])

    def test_names_that_are_taken(self):
        problem = Problem([Variable("right0", 0, 2), Variable("right1", 0, 3)], [Row("right2", [1, 1], "<=", 4)], [Aim("max", [3, 2])])
        self.assertEqual([piece[:4] for piece in sweep(problem, "right2", 1, 3)], [(1, 2, 3, 3), (2, 3, 6, 2)])


if __name__ == "__main__":
    unittest.main()
