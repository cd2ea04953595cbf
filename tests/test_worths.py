"""Point 39: what a paper is worth in a problem for which it need not have been made."""

import random
import unittest

from bestpapers.changes import with_coefficient, with_ends, with_right, with_rows
from bestpapers.errors import NoAim, Unfit
from bestpapers.fracs import Frac
from bestpapers.judging import shows
from bestpapers.problems import Problem
from bestpapers.rows import Aim, Row
from bestpapers.stages import stage_constants, stage_rows, stage_vector
from bestpapers.variables import Variable
from bestpapers.worths import worth
from tests.algebra import plain
from tests.helpers import fault, shape
from tests.made_papers import accepted_paper
from tests.test_judging import some_paper, some_problem
from tests.whole_papers import feasible_points, full_paper

HALF = Frac(1, 2)
NONE = (0, 0)
EMPTY = (2, 0)


def known(number):
    return (1, number)


def corner(sense="min", constant=0):
    return Problem([Variable("x", 0, 3), Variable("y", 0, 3)], [Row("r", [1, 1], ">=", 2)],
                   [Aim(sense, [1, 1], constant)])


def halves():
    """x and y are whole, from 0 to 3, and 2x + 2y is at most 3."""
    return Problem([Variable("x", 0, 3, whole=True), Variable("y", 0, 3, whole=True)],
                   [Row("r", [2, 2], "<=", 3)], [Aim("max", [1, 1])])


def line(*prices):
    return ("floors", (((), prices),))


def floor(problem, boxes, extra, row, constant, prices):
    """The floor by the words of point 26, for derived rows that may have no right side."""
    rows = [(r.coefficients, r.sense, r.right) for r in problem.rows]
    rows += [(coefficients, ">=", right) for coefficients, right in extra]
    total, rest = plain(constant), [plain(a) for a in row]
    for (coefficients, sense, right), price in zip(rows, map(plain, prices)):
        wrong = (sense == "<=" and price > 0) or (sense == ">=" and price < 0)
        if wrong or (price and right is None):
            return NONE
        if price:
            total += price * plain(right)
            rest = [a - price * plain(b) for a, b in zip(rest, coefficients)]
    for number, (low, high) in zip(rest, boxes):
        end = low if number > 0 else high
        if number and end is None:
            return NONE
        if number:
            total += number * plain(end)
    return known(total)


def crossed(boxes):
    return any(None not in box and box[0] > box[1] for box in boxes)


def cut(boxes, at, k, side):
    low, high = boxes[at]
    box = (low, min(high, Frac(k))) if side == "low" else (max(low, Frac(k + 1)), high)
    return boxes[:at] + [box] + boxes[at + 1:]


def shown(problem, boxes, extra, coefficients, reason):
    if reason[0] == "split":
        found = []
        for side, prices in zip(("low", "high"), reason[3:]):
            half = cut(boxes, reason[1], reason[2], side)
            bound = floor(problem, half, extra, coefficients, 0, prices)
            found.append(EMPTY if crossed(half) else bound)
        return min(found)
    kind, number = floor(problem, boxes, extra, coefficients, 0, reason[1])
    if reason[0] == "rounded":
        number = -(-number // 1)
    return (kind, number) if kind else NONE


def reference(problem, boxes, extra, paper):
    """The worth by the words of point 39, as a pair that compares as worths do."""
    if crossed(boxes):
        return EMPTY
    if paper[0] == "empty":
        bound = floor(problem, boxes, extra, (0,) * problem.n, 0, paper[1])
        return EMPTY if bound > known(0) else NONE
    if paper[0] == "floors" and paper[1]:
        prices = paper[1][0][1]
        return floor(problem, boxes, extra, stage_rows(problem)[0], stage_constants(problem)[0], prices)
    if paper[0] == "branch":
        at, k = paper[1:3]
        return min(reference(problem, cut(boxes, at, k, "low"), extra, paper[3]),
                   reference(problem, cut(boxes, at, k, "high"), extra, paper[4]))
    if paper[0] == "derive":
        kind, number = shown(problem, boxes, extra, paper[1], paper[3])
        right = Frac(number.numerator, number.denominator) if kind == 1 else None
        return reference(problem, boxes, extra + [(paper[1], right)], paper[4])
    return NONE


def described(problem, paper):
    """What worth must return: None, "empty" or a Fraction."""
    boxes = [(v.low, v.high) for v in problem.variables]
    kind, number = reference(problem, boxes, [], paper)
    if kind != 1:
        return None if kind == 0 else "empty"
    return -number if problem.aims[0].sense == "max" else number


class Worths(unittest.TestCase):
    def check(self, problem, paper, expected):
        found = worth(problem, paper)
        self.assertEqual(found, expected)
        self.assertEqual(shape(found), "NoneType" if expected is None else
                         "str" if expected == "empty" else "Frac")
        told = described(problem, paper)
        self.assertEqual(found if told in (None, "empty") else plain(found), told)


class Errors(Worths):
    def test_no_aims(self):
        problem = Problem([Variable("x")], [Row("r", [1], ">=", 2)])
        for paper in (line(1), line(1, 2), ("listed", 0)):
            self.assertEqual(fault(worth, problem, paper), (NoAim, {"aim": 0}))

    def test_unfit(self):
        for paper in (line(), line(1, 1), ("empty", (1, 0)), ("branch", 0, 1, line(1), line(1)),
                      ("derive", (1,), 0, ("added", (1,)), line(1, 0)),
                      ("derive", (1, 0), 0, ("rounded", (1,)), line(1, 0)),
                      ("floors", (((0,), (1,)),))):
            self.assertEqual(fault(worth, corner(), paper), (Unfit, {}))


class Leaves(Worths):
    def test_floors(self):
        self.check(corner(), line(1), 2)
        self.check(corner(), line(HALF), 1)
        self.check(corner(), line(-1), None)
        self.check(corner(constant=HALF), line(1), Frac(5, 2))
        self.check(corner("max", 5), line(0), 11)
        self.check(corner(), ("floors", ()), None)
        self.check(corner(), ("floors", (((), (0,)), ((0,), (1,)))), 0)

    def test_other_right_sides_ends_and_coefficients(self):
        self.check(with_right(corner(), "r", 3), line(1), 3)
        self.check(with_right(corner(), "r", Frac(7, 2)), line(1), Frac(7, 2))
        self.check(with_coefficient(corner(), "r", "x", 2), line(1), -1)
        self.check(with_ends(with_coefficient(corner(), "r", "x", 2), "x", 0, None), line(1), None)
        self.check(with_ends(corner(), "y", 3, 3), line(HALF), Frac(5, 2))

    def test_empty(self):
        self.check(corner(), ("empty", (1,)), None)
        self.check(with_right(corner(), "r", 6), ("empty", (1,)), None)
        self.check(with_right(corner(), "r", 7), ("empty", (1,)), "empty")
        self.check(with_right(corner(), "r", 7), ("empty", (-1,)), None)
        self.check(with_ends(corner(), "x", 0, None), ("empty", (1,)), None)

    def test_listed(self):
        for index in (-1, 0, 1):
            self.check(corner(), ("listed", index), None)
            self.check(halves(), ("branch", 0, -1, ("listed", index), line(-HALF)), Frac(3, 2))


class Branches(Worths):
    def test_the_lesser_one(self):
        self.check(halves(), ("branch", 0, 0, line(-HALF), line(-HALF)), Frac(3, 2))
        self.check(halves(), ("branch", 0, 0, line(0), line(-HALF)), 3)
        self.check(halves(), ("branch", 0, 0, line(-HALF), line(0)), 6)
        self.check(halves(), ("branch", 0, 0, line(-HALF), ("listed", 3)), None)
        self.check(halves(), ("branch", 0, 1, line(-HALF), ("empty", (-1,))), Frac(3, 2))
        self.check(halves(), ("branch", 0, 0, line(-HALF), ("empty", (-1,))), None)

    def test_numbers_nothing_and_empty_side_by_side(self):
        tight = with_right(halves(), "r", -1)
        leaves = {"empty": ("empty", (-1,)), "nothing": ("empty", (0,)), "number": line(-HALF)}
        order = ["nothing", "number", "empty"]
        for left in order:
            for right in order:
                least = order[min(order.index(left), order.index(right))]
                expected = {"empty": "empty", "nothing": None, "number": -HALF}[least]
                self.check(tight, ("branch", 0, 1, leaves[left], leaves[right]), expected)

    def test_crossed_halves(self):
        nothing = ("listed", 0)
        for k in (3, 4, 99):
            self.check(halves(), ("branch", 0, k, line(0), nothing), 6)
        for k in (-1, -2, -99):
            self.check(halves(), ("branch", 0, k, nothing, line(0)), 6)
        for k in (2, 0):
            self.check(halves(), ("branch", 0, k, line(0), nothing), None)
            self.check(halves(), ("branch", 0, k, nothing, line(0)), None)

    def test_boxes_never_become_wider(self):
        inside = ("branch", 0, 2, line(0), ("listed", 0))
        self.check(halves(), ("branch", 0, 1, inside, line(0)), 6)
        self.check(halves(), ("branch", 0, 1, ("branch", 0, 2, line(0), ("listed", 0)), ("empty", (-1,))), 4)
        both = ("branch", 0, 1, ("branch", 0, 1, ("branch", 1, 0, line(0), line(0)), ("listed", 0)), line(0))
        self.check(halves(), both, 6)

    def test_crossed_in_both(self):
        """Below a crossed box nothing counts any more."""
        below = ("branch", 1, 1, ("listed", 0), ("derive", (1, 0), 9, ("added", (0,)), ("listed", 1)))
        self.check(halves(), ("branch", 0, 5, line(0), below), 6)
        self.check(halves(), ("branch", 0, 5, ("branch", 0, -5, ("listed", 7), line(0)), below), 6)


class Derived(Worths):
    def test_the_right_side_is_the_one_that_is_shown_here(self):
        for right in (-99, 0, 99, HALF):
            paper = ("derive", (1, 1), right, ("added", (1,)), line(0, 1))
            self.check(corner(), paper, 2)
            self.check(with_right(corner(), "r", 5), paper, 5)
            paper = ("derive", (-1, -1), right, ("rounded", (-HALF,)), line(0, 1))
            self.check(halves(), paper, 1)
            self.check(with_right(halves(), "r", 4), paper, 2)
            self.check(with_right(halves(), "r", Frac(9, 2)), paper, 2)
            paper = ("derive", (-1, -1), right, ("split", 0, 0, (0,), (-HALF,)), line(0, 1))
            self.check(halves(), paper, 3)
            self.check(with_ends(halves(), "y", 0, 1), paper, Frac(3, 2))

    def test_no_right_side(self):
        for price, expected in ((0, 2), (1, None), (HALF, None), (-1, None)):
            paper = ("derive", (1, 1), 2, ("added", (-1,)), line(1, price))
            self.check(corner(), paper, expected)
            self.check(with_right(corner(), "r", 7), ("derive", (1, 1), 2, ("added", (-1,)), ("empty", (1, price))),
                       "empty" if price == 0 else None)
        for reason in (("rounded", (1,)), ("split", 0, 1, (1,), (0,)), ("split", 0, 1, (0,), (1,))):
            for price, expected in ((0, Frac(3, 2)), (1, None), (-1, None)):
                self.check(halves(), ("derive", (-1, -1), -1, reason, line(-HALF, price)), expected)

    def test_a_row_without_a_right_side_in_another_reason(self):
        none = ("added", (1,))
        for price, expected in ((0, 1), (1, None)):
            second = ("derive", (-1, -1), 0, ("rounded", (-HALF, price)), line(0, 0, 1))
            self.check(halves(), ("derive", (-1, -1), -1, none, second), expected)

    def test_a_split_with_a_crossed_half(self):
        for k, prices in ((3, ((-HALF,), (1,))), (-1, ((1,), (-HALF,)))):
            paper = ("derive", (-1, -1), 9, ("split", 0, k) + prices, line(0, 1))
            self.check(halves(), paper, Frac(3, 2))
        self.check(halves(), ("derive", (-1, -1), 9, ("split", 0, 2, (-HALF,), (1,)), line(0, 1)), None)

    def test_several(self):
        chance = random.Random(39)
        kinds = {}
        for _ in range(3000):
            problem = some_problem(chance)
            if not problem.aims:
                continue
            paper = some_paper(chance, problem, problem.m, 3)
            if fault(worth, problem, paper) == (Unfit, {}):
                continue
            found = worth(problem, paper)
            told = described(problem, paper)
            self.assertEqual(found if told in (None, "empty") else plain(found), told, (paper,))
            kind = "number" if told not in (None, "empty") else told
            kinds[kind] = kinds.get(kind, 0) + 1
        self.assertGreater(min(kinds.get(kind, 0) for kind in (None, "empty", "number")), 10, kinds)


class Claims(unittest.TestCase):
    def better(self, problem, left, right):
        return left < right if problem.aims[0].sense == "min" else left > right

    def test_no_point_is_better_in_changed_problems(self):
        chance = random.Random(391)
        numbers = 0
        for _ in range(150):
            problem = some_problem(chance)
            if not problem.aims:
                continue
            points = feasible_points(problem)
            targets = stage_vector(problem, points[0]) if points else None
            paper = full_paper(problem, targets)
            self.assertIs(shows(problem, targets, paper), True)
            self.shown(problem, points, paper, targets)
            for other in self.changed(chance, problem):
                found = worth(other, paper)
                amounts = [other.aims[0].amount(point) for point in feasible_points(other)]
                if found == "empty":
                    self.assertEqual(amounts, [])
                elif found is not None:
                    numbers += 1
                    self.assertFalse(any(self.better(other, amount, found) for amount in amounts))
        self.assertGreater(numbers, 50)

    def shown(self, problem, points, paper, targets):
        found = worth(problem, paper)
        if targets is None:
            self.assertEqual(found, "empty")
        elif problem.aims[0].sense == "min":
            self.assertTrue(found == "empty" or found >= targets[0])
        else:
            self.assertTrue(found == "empty" or found <= -targets[0])

    def test_not_worse_than_the_first_target(self):
        chance = random.Random(392)
        for _ in range(150):
            problem = some_problem(chance)
            if problem.aims:
                points = feasible_points(problem)
                targets, paper = accepted_paper(chance, problem, points)
                self.shown(problem, points, paper, targets)
                found = worth(problem, paper)
                told = described(problem, paper)
                self.assertEqual(found if told in (None, "empty") else plain(found), told)

    def changed(self, chance, problem):
        for row in problem:
            yield with_right(problem, row.name, row.right + chance.randint(-1, 1))
            yield with_coefficient(problem, row.name, chance.choice(problem.variables).name, chance.randint(-2, 2))
        variable = chance.choice(problem.variables)
        low = variable.low + chance.randint(-1, 1)
        high = variable.high + chance.randint(-1, 1)
        if low <= high:
            yield with_ends(problem, variable.name, low, high)

    def test_with_a_row_more_it_does_not_fit(self):
        problem = corner()
        more = with_rows(problem, Row("s", [1, 0], "<=", 2))
        self.assertEqual(fault(worth, more, line(1)), (Unfit, {}))


if __name__ == "__main__":
    unittest.main()
