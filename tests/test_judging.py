"""Points 34 and 35: what papers show."""

import itertools
import random
import unittest

from bestpapers.errors import BadCount
from bestpapers.fracs import Frac
from bestpapers.judging import shows
from bestpapers.problems import Problem
from bestpapers.rows import Aim, Row
from bestpapers.stages import stage_vector
from bestpapers.variables import Variable
from tests.helpers import HUGE, fault, shape, variables
from tests.whole_papers import feasible_points, full_paper

HALF = Frac(1, 2)
LITTLE = Frac(1, HUGE)


def corner():
    """The told point is (0, 2), its stage vector (2, 0, 2)."""
    return Problem([Variable("x", 0, 3), Variable("y", 0, 3)], [Row("r", [1, 1], ">=", 2)],
                   [Aim("min", [1, 1])])


# Each line shows exactly the number of the stage vector of the told point of the corner.
LINES = (((), (1,)), ((0,), (0,)), ((0, -1), (1,)))


def floors(*lines):
    return ("floors", lines)


def whole_corner():
    """The told point is (0, 1), its stage vector (-1, 0, 1)."""
    return Problem([Variable("x", 0, 3, whole=True), Variable("y", 0, 3, whole=True)],
                   [Row("r", [2, 2], "<=", 3)], [Aim("max", [1, 1])])


ROUNDED_LINES = (((), (0, 1)), ((0,), (0, 0)), ((-1, -1), (0, 0)))


def rounded(right=-1, prices=(-HALF,), coefficients=(-1, -1), lines=ROUNDED_LINES):
    return ("derive", coefficients, right, ("rounded", prices), floors(*lines))


def odd():
    """2 * x is 3, and x is whole."""
    return Problem([Variable("x", 0, 3, whole=True), Variable("y", 0, 9)], [Row("r", [2, 0], "=", 3)])


class Showing(unittest.TestCase):
    def check(self, problem, targets, paper, expected):
        self.assertIs(shows(problem, targets, paper), expected, (targets, paper))
        if targets is not None:
            self.assertIs(shows(problem, list(targets), paper), expected)
            self.assertIs(shows(problem, tuple(Frac(1) * number for number in targets), paper), expected)


class Targets(Showing):
    def test_too_many(self):
        for problem, most in ((corner(), 3), (odd(), 2), (Problem(variables(1)), 1)):
            paper = ("empty", (0,) * problem.m)
            for many in range(7):
                expected = None if many <= most else (BadCount, {"what": "targets", "many": many})
                self.assertEqual(fault(shows, problem, [0] * many, paper), expected)

    def test_too_many_before_anything_else(self):
        expected = (BadCount, {"what": "targets", "many": 4})
        self.assertEqual(fault(shows, corner(), (0,) * 4, ("empty", (1, 2, 3, 4, 5))), expected)

    def test_none(self):
        problem = Problem([Variable("x", 0, 1)], [Row("r", [1], ">=", 2)])
        self.check(problem, None, ("empty", (1,)), True)
        self.check(problem, None, floors(((), (1,))), False)
        self.check(problem, None, floors(), False)
        self.check(problem, (5,), floors(((), (4,))), True)

    def test_no_targets(self):
        self.check(corner(), (), floors(), True)
        self.check(corner(), (), floors(LINES[0]), False)

    def test_parts_of_the_stages(self):
        for many in range(4):
            for told in range(4):
                targets = (2, 0, 2)[:told]
                self.check(corner(), targets, floors(*LINES[:many]), many == told)

    def test_unfitting_papers(self):
        self.check(corner(), (2,), floors(((), (1, 0))), False)
        self.check(corner(), (2,), floors(((0,), (1,))), False)
        self.check(corner(), None, ("branch", 0, 1, ("empty", (1,)), ("empty", (1,))), False)
        self.check(whole_corner(), (-1,), ("branch", 2, 1, floors(), floors()), False)
        self.check(whole_corner(), (-1, 0, 1), rounded(prices=(-HALF, 0)), False)

    def test_an_unfitting_part_that_is_not_needed(self):
        good, bad = floors(), ("empty", (1, 1))
        self.check(whole_corner(), (), ("branch", 0, 1, good, good), True)
        self.check(whole_corner(), (), ("branch", 0, 1, good, bad), False)

    def test_targets_stay(self):
        targets = [2, HALF]
        shows(corner(), targets, floors(*LINES))
        self.assertEqual((targets, shape(targets)), ([2, HALF], ("list", ["int", "Frac"])))


class Empty(Showing):
    def test_above_zero(self):
        for high, expected in ((1, True), (2 - LITTLE, True), (2, False), (2 + LITTLE, False), (3, False)):
            problem = Problem([Variable("x", 0, high)], [Row("r", [1], ">=", 2)])
            for targets in (None, (), (0,), (99,)):
                self.check(problem, targets, ("empty", (1,)), expected)

    def test_prices(self):
        problem = Problem([Variable("x", 0, 1)], [Row("r", [1], ">=", 2), Row("s", [1], "<=", 0)])
        for prices, expected in (((1, 0), True), ((1, -1), True), ((LITTLE, 0), True), ((0, 0), False),
                                 ((-1, 0), False), ((1, 1), False), ((1, LITTLE), False), ((0, -1), False)):
            self.check(problem, None, ("empty", prices), expected)

    def test_an_unsupported_rest(self):
        problem = Problem([Variable("x"), Variable("y")], [Row("r", [1, 1], "<=", -1), Row("s", [-1, 0], ">=", 1)])
        self.check(problem, None, ("empty", (-1, 0)), True)
        self.check(problem, None, ("empty", (0, 1)), True)
        open_problem = Problem([Variable("x")], [Row("r", [1], ">=", 1)])
        self.check(open_problem, None, ("empty", (1,)), False)


class Floors(Showing):
    def test_as_many_lines_as_targets(self):
        paper = floors(*LINES)
        self.check(corner(), (2, 0, 2), paper, True)
        for at in range(3):
            for change, expected in ((LITTLE, False), (1, False), (-LITTLE, True), (-1, True)):
                targets = [2, 0, 2]
                targets[at] = targets[at] + change
                self.check(corner(), targets, paper, expected)

    def test_a_line_that_is_more_than_enough(self):
        self.check(corner(), (1, 0, 2), floors(*LINES), True)
        self.check(corner(), (2, -1, 3), floors(*LINES), True)
        self.check(corner(), (2, -1, 3 + LITTLE), floors(*LINES), False)

    def test_fewer_lines(self):
        for targets, many, expected in (
            ((2 - LITTLE, 9, 9), 1, True), ((1, 9), 1, True), ((2, -9, -9), 1, False), ((3, 0, 0), 1, False),
            ((2, -LITTLE, 9), 2, True), ((2, 0, -9), 2, False), ((2, 1, 9), 2, False),
            ((1, 0, 9), 2, False), ((3, -1, 9), 2, False), ((1, -1, 9), 2, True),
            ((2,), 0, False), ((-9,), 0, False), ((-9, -9, -9), 0, False),
        ):
            self.check(corner(), targets, floors(*LINES[:many]), expected)

    def test_a_line_without_a_number(self):
        self.check(corner(), (-99,), floors(((), (-1,))), False)
        self.check(corner(), (-99, -99), floors(((), (1,)), ((0,), (-1,))), False)
        self.check(corner(), (-99, -99, 0), floors(((), (1,)), ((0,), (-1,))), False)

    def test_multipliers_take_targets(self):
        with_first = LINES[:2] + (((1, -1), (0,)),)
        self.check(corner(), (2, 0, 2), floors(*with_first), True)
        self.check(corner(), (1, 0, 2), floors(*with_first), False)
        self.check(corner(), (1, 0, 1), floors(*with_first), True)
        self.check(corner(), (2, -1, 3), floors(*with_first), True)

    def test_constants(self):
        problem = Problem([Variable("x", 1, 4), Variable("y", 2, 4)], [],
                          [Aim("min", [1, 0], 10), Aim("max", [1, 1], 100)])
        for first, expected in ((11, True), (11 + LITTLE, False)):
            self.check(problem, (first,), floors(((), ())), expected)
        for second, expected in ((-108, True), (-108 + LITTLE, False)):
            self.check(problem, (11, second), floors(((), ()), ((0,), ())), expected)
        # The second line: 3 * 11 + floor(-1 * x - y - 3 * x), with the constant -100 - 30.
        for second, expected in ((33 - 16 - 4 - 130, True), (33 - 16 - 4 - 130 + LITTLE, False)):
            self.check(problem, (11, second), floors(((), ()), ((3,), ())), expected)
        for second, expected in ((-HALF * 11 - 2 - 4 - 95, True), (-HALF * 11 - 101 + LITTLE, False)):
            self.check(problem, (11, second), floors(((), ()), ((-HALF,), ())), expected)

    def test_lines_without_rows_for_each_stage(self):
        problem = Problem([Variable("x", 1, 4), Variable("y", 2, 5, pull="up")])
        lines = (((), ()), ((0,), ()))
        self.check(problem, (1, -5), floors(*lines), True)
        self.check(problem, (1, -5 + LITTLE), floors(*lines), False)
        self.check(problem, (1 + LITTLE, -5), floors(*lines), False)
        self.check(problem, (0, 99), floors(lines[0]), True)


class Branches(Showing):
    def paper(self, k, low_price=1, high_price=-1):
        return ("branch", 0, k, ("empty", (low_price,)), ("empty", (high_price,)))

    def test_both_halves(self):
        self.check(odd(), None, self.paper(1), True)
        self.check(odd(), None, self.paper(0), False)
        self.check(odd(), None, self.paper(2), False)
        self.check(odd(), None, self.paper(1, low_price=-1), False)
        self.check(odd(), None, self.paper(1, high_price=1), False)

    def test_edges(self):
        for k, expected in ((-HUGE, False), (-1, False), (0, True), (1, True), (2, True), (3, False), (HUGE, False)):
            self.check(odd(), (), ("branch", 0, k, floors(), floors()), expected)

    def test_edges_in_a_half(self):
        for k in range(-1, 4):
            inner = ("branch", 0, k, floors(), floors())
            self.check(odd(), (), ("branch", 0, 1, inner, floors()), k == 0)
            self.check(odd(), (), ("branch", 0, 1, floors(), inner), k == 2)

    def test_a_fixed_variable(self):
        problem = Problem([Variable("x", 1, 1, whole=True)])
        for k in range(3):
            self.check(problem, (), ("branch", 0, k, floors(), floors()), False)

    def test_targets_in_halves(self):
        problem = Problem([Variable("x", 0, 3, whole=True)], [], [Aim("max", [1])])
        low, high = floors(((), ())), floors(((), ()))
        self.check(problem, (-3,), ("branch", 0, 1, low, high), True)
        self.check(problem, (-2,), ("branch", 0, 1, low, high), False)
        self.check(problem, (-1,), ("branch", 0, 1, low, ("listed", 0)), False)


class Derived(Showing):
    def test_rounded(self):
        problem = whole_corner()
        self.check(problem, (-1, 0, 1), rounded(), True)
        self.check(problem, (-1, 0, 1), floors(*[(line[0], line[1][:1]) for line in ROUNDED_LINES]), False)
        for right, expected in ((-1, True), (-1 - LITTLE, True), (-Frac(3, 2), True), (-1 + LITTLE, False),
                                (-HALF, False), (0, False)):
            self.check(problem, (-2,), rounded(right, lines=(((), (0, 1)),)), expected)
        for prices in ((HALF,), (LITTLE,), (0,)):
            self.check(problem, (-1, 0, 1), rounded(prices=prices), False)

    def test_a_ceiling_of_a_whole_floor(self):
        problem = Problem([Variable("x", 0, 5, whole=True)])
        for right, expected in ((0, True), (LITTLE, False), (1, False)):
            self.check(problem, (), ("derive", (1,), right, ("rounded", ()), floors()), expected)

    def test_added(self):
        for right, expected in ((2, True), (2 - LITTLE, True), (-9, True), (2 + LITTLE, False), (3, False)):
            paper = ("derive", (1, 1), right, ("added", (1,)), floors(((), (0, 1))))
            self.check(corner(), (right,), paper, expected)
            if expected:
                self.check(corner(), (right + LITTLE,), paper, False)
        half = ("derive", (1, 0), HALF, ("added", (0,)), floors())
        self.check(Problem([Variable("x", 1, 2), Variable("y")], [Row("r", [0, 1], "<=", 1)]), (), half, True)
        self.check(corner(), (), half, False)

    def test_added_is_not_rounded(self):
        paper = ("derive", (-1, -1), -1, ("added", (-HALF,)), floors(*ROUNDED_LINES))
        self.check(whole_corner(), (-1, 0, 1), paper, False)

    def test_added_without_a_floor(self):
        paper = ("derive", (1, 1), -99, ("added", (-1,)), floors())
        self.check(corner(), (), paper, False)
        paper = ("derive", (-1, -1), -99, ("rounded", (LITTLE,)), floors())
        self.check(whole_corner(), (), paper, False)

    def split(self, right=-2, k=1, low_prices=(0,), high_prices=(-2,), inside=None):
        reason = ("split", 1, k, low_prices, high_prices)
        return ("derive", (0, -2), right, reason, floors() if inside is None else inside)

    def test_split(self):
        self.check(whole_corner(), (), self.split(), True)
        self.check(whole_corner(), (0, 0, -1), self.split(inside=floors(((), (-HALF, 0)))), False)
        line = floors(((), (-HALF, 0)), ((0,), (0, 0)), ((0, 0), (0, 0)))
        self.check(whole_corner(), (-Frac(3, 2), 0, 0), self.split(inside=line), True)
        self.check(whole_corner(), (), self.split(-2 + LITTLE), False)
        self.check(whole_corner(), (), self.split(-2 - LITTLE), True)

    def test_split_in_the_low_half(self):
        # 5 - 2 * 3 in the high half, but only -2 in the low one.
        for right, expected in ((-2, True), (-2 + LITTLE, False)):
            self.check(whole_corner(), (), self.split(right, high_prices=(-3,)), expected)
        self.check(whole_corner(), (), self.split(low_prices=(LITTLE,)), False)
        self.check(whole_corner(), (), self.split(low_prices=(-1,)), False)
        self.check(whole_corner(), (), self.split(-3, low_prices=(-1,)), True)

    def test_split_in_the_high_half(self):
        self.check(whole_corner(), (), self.split(-3, high_prices=(-1,)), True)
        self.check(whole_corner(), (), self.split(-3 + LITTLE, high_prices=(-1,)), False)
        self.check(whole_corner(), (), self.split(-9, high_prices=(LITTLE,)), False)

    def test_edges_of_a_split(self):
        for k in (-HUGE, -1, 0, 1, 2, 3, HUGE):
            self.check(whole_corner(), (), self.split(-99, k), 0 <= k <= 2)
            below = ("branch", 1, 1, floors(), self.split(-99, k))
            self.check(whole_corner(), (), below, k == 2)
            below = ("branch", 1, 1, self.split(-99, k), floors())
            self.check(whole_corner(), (), below, k == 0)

    def test_the_paper_inside(self):
        for inside, expected in ((floors(), True), (("empty", (0, 0)), False), (("listed", 0), False)):
            self.check(corner(), (), ("derive", (1, 1), 2, ("added", (1,)), inside), expected)

    def test_derived_rows_under_derived_rows(self):
        last = floors(((), (0, 0, 1)))
        inner = ("derive", (1, 1), 1, ("added", (0, HALF)), last)
        self.check(corner(), (1,), ("derive", (2, 2), 2, ("added", (2,)), inner), True)
        self.check(corner(), (1 + LITTLE,), ("derive", (2, 2), 2, ("added", (2,)), inner), False)
        self.check(corner(), (1,), ("derive", (2, 2), 2 - LITTLE, ("added", (2,)), inner), False)

    def test_a_derived_row_holds_in_its_half_alone(self):
        # In the low half x is at most 1, so y is at least 1.
        problem = Problem([Variable("x", 0, 3, whole=True), Variable("y", 0, 3)], [Row("r", [1, 1], ">=", 2)],
                          [Aim("min", [0, 1])])
        low = ("derive", (0, 1), 1, ("added", (1,)), floors(((), (0, 1))))
        self.check(problem, (0,), ("branch", 0, 1, low, floors(((), (0,)))), True)
        self.check(problem, (1,), ("branch", 0, 1, low, floors(((), (0,)))), False)
        self.check(problem, (0,), ("branch", 0, 2, low, floors(((), (0,)))), False)


class Listed(Showing):
    def test_never_accepted(self):
        for index in (0, 1, -1):
            for targets in (None, (), (0,)):
                self.check(corner(), targets, ("listed", index), False)
        fixed = Problem([Variable("x", 1, 1, whole=True)])
        self.check(fixed, (1,), ("listed", 0), False)


def some_problem(chance):
    """A little problem in which all variables are whole."""
    n = chance.randint(1, 3)

    def row():
        return [chance.randint(-2, 2) for _ in range(n)]

    kinds = [Variable(f"x{at}", chance.randint(-1, 0), chance.randint(1, 2), whole=True,
                      pull=chance.choice(("up", "down"))) for at in range(n)]
    rows = [Row(f"r{at}", row(), chance.choice(("<=", ">=", "=")), chance.randint(-2, 2))
            for at in range(chance.randint(0, 2))]
    aims = [Aim(chance.choice(("min", "max")), row(), chance.randint(-1, 1))
            for _ in range(chance.randint(0, 2))]
    return Problem(kinds, rows, aims)


def some_paper(chance, problem, many, depth):
    """A paper that fits, of which little is right."""
    def prices(wide=many):
        return tuple(chance.choice((0, 0, 1, -1, HALF, -HALF)) for _ in range(wide))

    word = chance.choice(("empty", "floors", "floors", "branch", "derive") if depth else ("empty", "floors"))
    if word == "empty":
        return ("empty", prices())
    if word == "floors":
        most = len(problem.aims) + problem.n
        return ("floors", tuple((prices(at), prices()) for at in range(chance.randint(1, most))))
    variable, k = chance.randrange(problem.n), chance.randint(-1, 1)
    if word == "branch":
        return ("branch", variable, k, some_paper(chance, problem, many, depth - 1),
                some_paper(chance, problem, many, depth - 1))
    reason = chance.choice((("added", prices()), ("rounded", prices()),
                            ("split", variable, k, prices(), prices())))
    coefficients = tuple(chance.randint(-2, 2) for _ in range(problem.n))
    return ("derive", coefficients, chance.randint(-3, 1), reason, some_paper(chance, problem, many + 1, depth - 1))


class Claims(unittest.TestCase):
    def test_no_wrong_claim_is_accepted(self):
        chance = random.Random(34)
        accepted = 0
        for _ in range(3000):
            problem = some_problem(chance)
            vectors = [stage_vector(problem, point) for point in feasible_points(problem)]
            paper = some_paper(chance, problem, problem.m, 2)
            many = chance.randint(0, len(problem.aims) + problem.n)
            targets = tuple(chance.randint(-3, 1) for _ in range(many))
            if shows(problem, None, paper):
                self.assertEqual(vectors, [])
            if shows(problem, targets, paper):
                accepted += 1
                self.assertTrue(all(vector[:many] >= targets for vector in vectors))
        self.assertGreater(accepted, 100)

    def test_full_papers(self):
        chance = random.Random(35)
        empty = 0
        for _ in range(60):
            problem = some_problem(chance)
            points = feasible_points(problem)
            self.assertIs(shows(problem, None, full_paper(problem, None)), points == [])
            if not points:
                empty += 1
                continue
            first = stage_vector(problem, points[0])
            self.assertIs(shows(problem, first, full_paper(problem, first)), True)
            for many, point in itertools.product(range(len(first) + 1), points[:3]):
                targets = stage_vector(problem, point)[:many]
                right = targets == first[:many]
                self.assertIs(shows(problem, targets, full_paper(problem, targets)), right)
        self.assertGreater(empty, 5)

    def test_deep_papers(self):
        paper = floors(((), (0,) * 199 + (1,)))
        for many in range(199, 0, -1):
            prices = (0,) * (many - 1) + (1,)
            paper = ("derive", (1, 1), 2, ("added", prices), paper)
        self.assertIs(shows(corner(), (2,), paper), True)
        self.assertIs(shows(corner(), (2 + LITTLE,), paper), False)


if __name__ == "__main__":
    unittest.main()
