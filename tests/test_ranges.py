"""Points 74 and 75: how far right sides and coefficients of aims may move."""

import random
import unittest

from bestpapers.changes import with_aims, with_right
from bestpapers.dual import dual_run
from bestpapers.errors import NoAim, NoName
from bestpapers.fracs import Frac
from bestpapers.nodes import Node
from bestpapers.problems import Problem
from bestpapers.ranges import aim_range, right_range, row_prices
from bestpapers.refusals import NotEnded
from bestpapers.rows import Aim, Row
from bestpapers.tables import Table
from bestpapers.variables import Variable
from tests.algebra import some_mixed
from tests.helpers import HUGE, fault, picture, shape
from tests.test_heldsets import searched

TINY = Frac(1, 10 ** 9)


def sample():
    """The told point is (2, 4), where a and b are held."""
    return Problem([Variable("x", 0, 9), Variable("y", 0, 9)],
                   [Row("a", [1, 1], "<=", 6), Row("b", [-1, 1], "<=", 2), Row("c", [1, 0], "<=", 7), Row("d", [0, 1], ">=", 1),
                    Row("e", [1, 2], "=", 10)], [Aim("max", [1, 3], 5), Aim("min", [1, 0])])


def ended(problem):
    """The last table of the run of a problem."""
    return dual_run(Node(problem)).table


def held_at_end(table):
    return table.outside() is None and not any(tall.parts[0] for tall in table.corner())


def inside_and_beyond(low, high):
    """Amounts from low to high, and amounts that are not."""
    ends = [end for end in (low, high) if end is not None]
    inside = ends + [Frac(0)] + [end * Frac(1, 3) for end in ends]
    inside += [Frac(-HUGE)] if low is None else [low + TINY * (high is None or high - low > TINY)]
    inside += [Frac(HUGE)] if high is None else [high - TINY * (low is None or high - low > TINY)]
    beyond = [low - TINY, low - 1, low - HUGE] if low is not None else []
    return inside, beyond + ([high + TINY, high + 1, high + HUGE] if high is not None else [])


class Ranges(unittest.TestCase):
    def check_pair(self, pair):
        low, high = pair
        self.assertEqual(pair.__class__, tuple)
        for end in pair:
            self.assertIn(end.__class__, (Frac, None.__class__))
        self.assertTrue(low is None or low <= 0)
        self.assertTrue(high is None or high >= 0)


class RightSides(Ranges):
    def check(self, table, name, expected=None):
        problem = table.node.problem
        before = picture(problem)
        found = right_range(table, name)
        self.assertEqual(picture(problem), before)
        if expected is not None:
            self.assertEqual(found, expected)
        self.check_pair(found)
        inside, beyond = inside_and_beyond(*found)
        for amounts, fits in ((inside, True), (beyond, False)):
            for amount in amounts:
                other = Table(Node(with_right(problem, name, problem[name].right + amount)), table.chosen)
                self.assertIs(other.outside() is None, fits, (found, amount))
                if fits:
                    self.check_values(problem, table, other, name, amount)
        return found

    def check_values(self, problem, table, other, name, amount):
        """The values of the aims change by amount times the row's price."""
        prices = row_prices(table, name)
        self.assertEqual(shape(prices), ("tuple", ["Frac"] * len(problem.aims)))
        for aim, price in zip(problem.aims, prices):
            old, new = [aim.amount([tall.parts[1] for tall in one.corner()]) for one in (table, other)]
            self.assertEqual(new - old, amount * price)

    def test_sample(self):
        table = ended(sample())
        self.assertEqual((table.chosen, [tall.parts[1] for tall in table.corner()]), ((2, 3), [2, 4]))
        self.check(table, "a", (0, 0))
        self.check(table, "c", (-5, None))
        self.check(table, "e", (0, 0))
        table = Table(Node(sample()), (3, 6))
        self.check(table, "b", (0, 3))
        self.check(table, "e", (-6, 0))

    def test_without_the_equation(self):
        problem = Problem(sample().variables, sample().rows[:4], sample().aims)
        table = ended(problem)
        self.check(table, "a", (-4, 10))
        self.check(table, "b", (-6, 4))
        self.check(table, "c", (-5, None))
        self.check(table, "d", (None, 3))
        self.assertEqual((row_prices(table, "a"), row_prices(table, "b")), ((2, Frac(1, 2)), (1, Frac(-1, 2))))
        self.assertEqual((row_prices(table, "c"), row_prices(table, "d")), ((0, 0), (0, 0)))

    def test_an_equation(self):
        problem = Problem([Variable("x", 0, 9), Variable("y", 0, 5)], [Row("e", [1, 1], "=", 6)], [Aim("min", [1, 2])])
        table = ended(problem)
        self.assertEqual(table.chosen, (1, 2))
        self.check(table, "e", (-6, 3))
        self.assertEqual(row_prices(table, "e"), (1,))
        free = Table(Node(Problem([Variable("x", 2, 9), Variable("y", 4, 5)], [Row("e", [1, 1], "=", 6)])), (0, 1))
        self.check(free, "e", (0, 0))

    def test_no_bound(self):
        problem = Problem([Variable("x"), Variable("y", 0, 3)], [Row("r", [1, 0], ">=", 2)], [Aim("min", [1, 0])])
        table = ended(problem)
        self.assertEqual(table.chosen, (1, 2))
        self.check(table, "r", (-2, None))
        problem = Problem([Variable("x", None, 4), Variable("y", 0, 3)], [Row("r", [1, 0], "<=", 2), Row("s", [1, 1], "<=", 9)], [Aim("max", [1, 0])])
        table = ended(problem)
        self.check(table, "r", (None, 2))
        self.check(table, "s", (-7, None))

    def test_both_sides_without_bound(self):
        problem = Problem([Variable("x", None, 0), Variable("y")], [Row("r", [1, 1], "=", 4)], [Aim("min", [0, 1])])
        table = ended(problem)
        self.assertEqual(table.chosen, (0, 2))
        self.check(table, "r", (-4, None))

    def test_a_bound_of_zero(self):
        problem = Problem([Variable("x", 0, 4), Variable("y", 0, 4)], [Row("r", [1, 1], "<=", 4), Row("s", [1, 0], "<=", 4)], [Aim("max", [2, 1])])
        table = Table(Node(problem), (2, 3))
        self.check(table, "r", (0, 4))
        self.check(table, "s", (-4, 0))

    def test_row_prices_at_a_missing_end(self):
        problem = Problem([Variable("x"), Variable("y")], [Row("r", [1, 1], ">=", 2), Row("s", [1, 0], "<=", 9)], [Aim("max", [1, 2]), Aim("min", [1, 0])])
        table = Table(Node(problem), (0, 2))
        self.assertEqual(table.end(2).parts, (1, 0))
        self.assertEqual(row_prices(table, "r"), (0, 0))
        self.assertEqual(fault(right_range, table, "r"), (NotEnded, {}))
        turned = Table(Node(with_aims(problem, [Aim("min", [1, 2]), Aim("max", [3, 0])])), (0, 2))
        self.assertEqual(row_prices(turned, "r"), (2, 0))
        turned = Table(Node(with_aims(problem, [Aim("min", [2, 1]), Aim("max", [-3, 1])])), (1, 2))
        self.assertEqual((row_prices(turned, "r"), row_prices(turned, "s")), ((2, -3), (0, 0)))

    def test_whole_variables(self):
        problem = Problem([Variable("x", 0, 3, whole=True)], [Row("r", [2], "<=", 3)], [Aim("max", [1])])
        self.check(ended(problem), "r", (-3, 3))

    def test_errors(self):
        table = ended(sample())
        stuck = dual_run(Node(Problem([Variable("x", 0, 1)], [Row("r", [1], ">=", 2)]))).table
        first = Table(Node(sample()), (0, 1))
        far = ended(Problem([Variable("x")], [Row("r", [1], ">=", 2)], [Aim("max", [1])]))
        self.assertIsNone(far.outside())
        for other in (table, stuck, first, far):
            for name in ("x", "q", ""):
                self.assertEqual(fault(right_range, other, name), (NoName, {"name": name}))
                self.assertEqual(fault(row_prices, other, name), (NoName, {"name": name}))
        self.assertIsNotNone(first.outside())
        for other, name in ((stuck, "r"), (first, "a"), (first, "c"), (far, "r")):
            self.assertEqual(fault(right_range, other, name), (NotEnded, {}))
            self.assertIsNone(fault(row_prices, other, name))

    def test_chance(self):
        chance = random.Random(74)
        counts = {}
        for _ in range(800):
            problem = some_mixed(chance, 3, 4, 2, whole=2)
            tables = [Table(Node(problem), chosen) for chosen in searched(Node(problem))]
            for table in [table for table in tables if held_at_end(table)][:8]:
                for at, row in enumerate(problem.rows):
                    found = self.check(table, row.name)
                    key = (row.sense, problem.n + at in table.chosen)
                    counts[key] = counts.get(key, 0) + 1
                    for end, side in zip(found, ("low", "high")):
                        counts[side, end is None] = counts.get((side, end is None), 0) + 1
        self.assertEqual(len(counts), 10, counts)
        self.assertGreater(min(counts.values()), 10, counts)


class Coefficients(Ranges):
    def sides(self, table):
        boxes = {at: table.node.box_of(at) for at in table.chosen}
        return [table.side(at) for at in table.chosen if None in boxes[at] or boxes[at][0] != boxes[at][1]]

    def check(self, table, aim, name, expected=None):
        problem = table.node.problem
        before = picture(problem)
        found = aim_range(table, aim, name)
        self.assertEqual(picture(problem), before)
        if expected is not None:
            self.assertEqual(found, expected)
        self.check_pair(found)
        low, high = found
        inside, beyond = inside_and_beyond(low, high)
        between = [amount for amount in inside if (low is None or low < amount) and (high is None or amount < high)]
        for amounts, same in ((between, True), (beyond, False)):
            for amount in amounts:
                other = Table(Node(self.changed(problem, aim, name, amount)), table.chosen)
                self.assertIs(self.sides(other) == self.sides(table), same, (found, amount))
        return found

    def changed(self, problem, aim, name, amount):
        at = [variable.name for variable in problem.variables].index(name)
        aims = list(problem.aims)
        row = list(aims[aim].coefficients)
        row[at] = row[at] + amount
        aims[aim] = Aim(aims[aim].sense, row, aims[aim].constant)
        return with_aims(problem, aims)

    def test_sample(self):
        problem = Problem(sample().variables, sample().rows[:4], sample().aims)
        table = ended(problem)
        self.check(table, 0, "x", (-4, 2))
        self.check(table, 0, "y", (-2, None))
        self.check(table, 1, "x", (None, None))
        self.check(table, 1, "y", (None, None))

    def test_both_senses(self):
        for sense, expected in (("min", ((-2, None), (-3, None))), ("max", ((None, 2), (None, 3)))):
            sign = 1 if sense == "min" else -1
            problem = Problem([Variable("x", 0, 9), Variable("y", 0, 9)], [], [Aim(sense, [2 * sign, 3 * sign])])
            for name, pair in zip("xy", expected):
                self.check(ended(problem), 0, name, pair)

    def test_a_bound_of_zero(self):
        problem = Problem([Variable("x", 0, 9), Variable("y", 0, 9, pull="up")], [], [Aim("min", [0, 0]), Aim("max", [0, 5])])
        table = ended(problem)
        self.check(table, 0, "x", (0, None))
        self.check(table, 0, "y", (None, 0))
        self.check(table, 1, "x", (None, 0))
        self.check(table, 1, "y", (-5, None))

    def test_a_later_aim(self):
        problem = Problem([Variable("x", 0, 9), Variable("y", 0, 9)], [], [Aim("min", [1, 0]), Aim("min", [4, 7])])
        self.check(ended(problem), 1, "x", (None, None))
        self.check(ended(problem), 1, "y", (-7, None))

    def test_a_variable_that_is_not_held(self):
        problem = Problem([Variable("x", 0, 9), Variable("y", 0, 9)], [Row("r", [1, 2], ">=", 6)], [Aim("min", [1, 1])])
        table = ended(problem)
        self.assertEqual(table.chosen, (0, 2))
        self.check(table, 0, "y", (-1, 1))
        self.check(table, 0, "x", (Frac(-1, 2), None))

    def test_fixed_items(self):
        problem = Problem([Variable("x", 2, 2), Variable("y", 0, 9)], [], [Aim("min", [1, 1])])
        self.check(ended(problem), 0, "x", (None, None))
        self.check(ended(problem), 0, "y", (-1, None))

    def test_errors(self):
        table = ended(sample())
        for aim in (-HUGE, -1, 2, 3, HUGE):
            for name in ("x", "a", "q"):
                self.assertEqual(fault(aim_range, table, aim, name), (NoAim, {"aim": aim}))
        for name in ("a", "q", ""):
            for aim in (0, 1):
                self.assertEqual(fault(aim_range, table, aim, name), (NoName, {"name": name}))
        self.assertEqual(fault(aim_range, ended(Problem([Variable("x")])), 0, "q"), (NoAim, {"aim": 0}))

    def test_chance(self):
        chance = random.Random(75)
        counts = {}
        for _ in range(200):
            problem = some_mixed(chance, 3, 3, 3, whole=2)
            for chosen in searched(Node(problem))[:3]:
                table = Table(Node(problem), chosen)
                for aim in range(len(problem.aims)):
                    for at, variable in enumerate(problem.variables):
                        found = self.check(table, aim, variable.name)
                        key = (problem.aims[aim].sense, aim > 0, at in table.chosen)
                        counts[key] = counts.get(key, 0) + 1
                        for end, side in zip(found, ("low", "high")):
                            kind = "none" if end is None else "zero" if end == 0 else "number"
                            counts[side, kind] = counts.get((side, kind), 0) + 1
        self.assertEqual(len(counts), 14, counts)
        self.assertGreater(min(counts.values()), 10, counts)


if __name__ == "__main__":
    unittest.main()
