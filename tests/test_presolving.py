"""Points 66 to 68: the presolver and its steps."""

import random
import unittest

from bestpapers.answers import Answer
from bestpapers.fracs import Frac
from bestpapers.judges import judge
from bestpapers.judging import shows
from bestpapers.paperforms import fits, paper_depth
from bestpapers.presolving import Trace, presolve
from bestpapers.problems import Problem
from bestpapers.rows import Aim, Row
from bestpapers.solving import solve
from bestpapers.variables import Variable
from tests.algebra import some_mixed
from tests.helpers import HUGE, picture
from tests.made_papers import numbers_in
from tests.plain_presolver import nested, presolved, unfolded
from tests.whole_papers import feasible_points

HALF = Frac(1, 2)


class Presolving(unittest.TestCase):
    def trace(self, problem, *steps):
        """Presolve a problem, look at all that holds for every trace, and at the steps."""
        before = picture(problem)
        trace = presolve(problem)
        self.assertIsInstance(trace, Trace)
        self.assertEqual(picture(problem), before)
        self.assertIs(trace.outer, problem)
        self.assertEqual(trace.steps, steps)
        self.assertEqual([step.__class__ for step in trace.steps], [tuple] * len(steps))
        if trace.inner is None:
            self.check_verdict(problem, trace.verdict)
        else:
            self.assertIsNone(trace.verdict)
            again = presolve(trace.inner)
            self.assertEqual((again.steps, again.inner), ((), trace.inner))
        if not steps:
            self.assertIs(trace.inner, problem)
        return trace

    def check_verdict(self, problem, verdict):
        self.assertIsInstance(verdict, Answer)
        self.assertEqual((verdict.kind, verdict.totals, verdict.point, verdict.at, verdict.ray), ("empty", (), None, None, None))
        self.assertTrue(fits(problem, verdict.paper))
        self.assertIs(judge(problem, verdict), True)
        self.assertIs(shows(problem, None, verdict.paper), True)
        self.assertLessEqual(paper_depth(verdict.paper), 199)
        whole, numbers = numbers_in(verdict.paper)
        self.assertEqual((whole, {number.__class__ for number in numbers} - {Frac}), ([], set()))
        self.assertEqual(solve(problem).kind, "empty")

    def inner(self, problem, *steps):
        return picture(self.trace(problem, *steps).inner)

    def empty(self, problem, *steps):
        self.assertIsNone(self.trace(problem, *steps).inner)


def xy(*rows, x=(0, 9), y=(0, 9), whole=False, aims=()):
    return Problem([Variable("x", *x, whole=whole), Variable("y", *y)], [Row(*row) for row in rows], aims)


class Steps(Presolving):
    def test_the_document(self):
        w = Problem([Variable("x"), Variable("y", 2, 2)], [Row("a", [2, 0], "<=", 6), Row("b", [1, 1], "<=", 9)],
                    [Aim("min", [1, 0])])
        found = self.inner(w, ("single", "a", "x"), ("fixed", "y"), ("single", "b", "x"))
        self.assertEqual(found, ([("x", 0, 3, False, "down")], [], [("min", (1,), 0)]))

    def test_no_step(self):
        self.trace(xy(("r", [1, 1], "<=", 9)))
        self.trace(Problem([Variable("x", 2, 2)]))
        self.trace(Problem([Variable("x")], [], [Aim("max", [1])]))
        self.trace(xy(("r", [1, 1], ">=", 2), ("s", [1, 2], "<=", 12)))

    def test_kinds_in_their_order(self):
        problem = xy(("d", [1, 1], "<=", 10), ("e", [2, 2], "<=", 22), ("z", [0, 0], "<=", 0), ("s", [0, 1], "<=", 7),
                     ("l", [1, 2], "<=", 40), aims=[Aim("max", [1, 1])])
        self.trace(problem, ("empty", "z"), ("single", "s", "y"), ("slack", "l"), ("doubled", "e", "d"))
        problem = xy(("d", [1, 1], "<=", 10), ("e", [2, 2], "<=", 22), ("f", [1, 3], "<=", 40), x=(0, None))
        self.trace(problem, ("doubled", "e", "d"), ("end", "d", "x", "high"), ("slack", "f"))

    def test_rows_and_variables_in_their_order(self):
        problem = Problem([Variable(name, 1, 1) for name in "abc"], [Row("r", [1, 1, 1], "<=", 9), Row("s", [0, 0, 0], "<=", 9),
                                                                  Row("t", [0, 0, 0], ">=", -9)])
        self.trace(problem, ("empty", "s"), ("empty", "t"), ("fixed", "a"), ("fixed", "b"), ("single", "r", "c"))

    def test_what_is_left(self):
        problem = Problem(
            [Variable("a", 0, 4, pull="up"), Variable("b", 3, 3), Variable("c", None, 8), Variable("d", 0, 2, whole=True, pull="up")],
            [Row("r", [1, 2, 3, 4], ">=", -9), Row("s", [0, 0, 0, 0], "=", 0), Row("t", [1, -2, 1, 1], "<=", HALF)],
            [Aim("max", [1, 10, 1, 1], 5), Aim("min", [0, -1, 1, 0])],
        )
        found = self.inner(problem, ("empty", "s"), ("fixed", "b"), ("end", "r", "c", "low"))
        self.assertEqual(found, (
            [("a", 0, 4, False, "up"), ("c", Frac(-27, 3), 8, False, "up"), ("d", 0, 2, True, "up")],
            [("r", (1, 3, 4), ">=", -15), ("t", (1, 1, 1), "<=", Frac(13, 2))],
            [("max", (1, 1, 1), 35), ("min", (0, 1, 0), -3)],
        ))

    def test_steps_that_make_steps_possible(self):
        problem = xy(("r", [1, 1], "=", 5), ("s", [1, 0], "=", 2), aims=[Aim("min", [1, 1])])
        found = self.inner(problem, ("single", "s", "x"), ("fixed", "x"), ("single", "r", "y"))
        self.assertEqual(found, ([("y", 3, 3, False, "down")], [], [("min", (1,), 2)]))

    def test_against_a_plain_presolver(self):
        counts, empty = {}, {}
        for problem in nested(66, 800) + nested(67, 300, whole=0) + nested(68, 300, whole=10) + nested(68, 300, rich=True):
            parts, steps, _ = presolved(problem)
            trace = self.trace(problem, *steps)
            for step in steps:
                counts[step[0]] = counts.get(step[0], 0) + 1
            if parts is None:
                empty[steps[-1][0]] = empty.get(steps[-1][0], 0) + 1
                continue
            self.assertEqual(unfolded(trace.inner), parts)
        self.assertGreater(min(counts.values()), 20, counts)
        self.assertEqual((len(counts), len(empty)), (6, 4))
        self.assertGreater(min(empty.values()), 10, empty)

    def test_no_point_is_lost_or_gained(self):
        for problem in nested(69, 150, whole=10):
            trace = presolve(problem)
            points = feasible_points(problem)
            if trace.inner is None:
                self.assertEqual(points, [])
                continue
            found = [trace.point_back(point) for point in feasible_points(trace.inner)]
            self.assertEqual(found, points)

    def test_the_bounds_of_the_document(self):
        chance = random.Random(70)
        items = [Variable(f"x{at}", 0, 1, whole=True) for at in range(8)] + [Variable(f"y{at}") for at in range(8)]
        rows = [Row(f"r{at}", [chance.randint(1, HUGE) for _ in items], "<=", HUGE * 9) for at in range(16)]
        trace = presolve(Problem(items, rows))
        self.assertEqual([step for step in trace.steps if step[0] == "end"],
                         [("end", "r0", f"y{at}", "high") for at in range(8)])


class EmptyRows(Presolving):
    def test_rows_that_hold(self):
        for sense, right in (("<=", 0), ("<=", HALF), (">=", 0), (">=", -1), ("=", 0)):
            found = self.inner(xy(("r", [0, 0], sense, right), ("k", [1, 1], "<=", 9)), ("empty", "r"))
            self.assertEqual([row[0] for row in found[1]], ["k"])

    def test_rows_that_do_not_hold(self):
        for sense, right in (("<=", -HALF), (">=", HALF), ("=", 1), ("=", Frac(-1, HUGE))):
            self.empty(xy(("k", [1, 1], "<=", 9), ("r", [0, 0], sense, right)), ("empty", "r"))

    def test_behind_fixed_variables(self):
        problem = Problem([Variable("x", 2, 2), Variable("y", -1, -1), Variable("z")], [Row("r", [3, 1, 0], "<=", 4)])
        self.empty(problem, ("fixed", "x"), ("single", "r", "y"))
        problem = Problem([Variable("x", 2, 2), Variable("y", -1, 0), Variable("z")], [Row("q", [0, 1, 0], "<=", -1), Row("r", [3, 1, 0], "<=", 4)])
        self.empty(problem, ("single", "q", "y"), ("fixed", "x"), ("single", "r", "y"))
        problem = Problem([Variable("x", 2, 2), Variable("z"), Variable("u")], [Row("r", [3, 1, 1], "<=", 4), Row("s", [1, 0, 0], "<=", 3)])
        self.empty(problem, ("single", "s", "x"), ("fixed", "x"), ("end", "r", "z", "high"))


class SingleRows(Presolving):
    def test_signs_and_senses(self):
        for number, sense, expected in (
            (2, "<=", (-9, 3)), (-2, "<=", (-3, 9)), (2, ">=", (3, 9)), (-2, ">=", (-9, -3)), (2, "=", (3, 3)), (-2, "=", (-3, -3)),
        ):
            for whole in (False, True):
                problem = Problem([Variable("x", -9, 9, whole=whole)], [Row("r", [number], sense, 6)])
                variables, rows, _ = self.inner(problem, ("single", "r", "x"))
                self.assertEqual((variables[0][1:3], rows), (expected, []))

    def test_fractions_at_whole_variables(self):
        for number, sense, right, expected in (
            (2, "<=", 5, (-9, 2)), (2, ">=", 5, (3, 9)), (-2, "<=", 5, (-2, 9)), (-2, ">=", 5, (-9, -3)),
            (Frac(2, 3), "<=", -1, (-9, -2)), (Frac(2, 3), ">=", -1, (-1, 9)),
        ):
            problem = Problem([Variable("x", -9, 9, whole=True)], [Row("r", [number], sense, right)])
            variables, rows, _ = self.inner(problem, ("single", "r", "x"))
            self.assertEqual((variables[0][1:3], rows), (expected, []))
        self.empty(Problem([Variable("x", -9, 9, whole=True)], [Row("r", [2], "=", 5)]), ("single", "r", "x"))
        self.empty(Problem([Variable("x", 0, 2, whole=True)], [Row("r", [2], "=", 5)]), ("single", "r", "x"))

    def test_an_end_that_is_not_better(self):
        for sense, right in (("<=", 9), ("<=", 10), (">=", 0), (">=", -5)):
            self.assertEqual(self.inner(xy(("r", [1, 0], sense, right)), ("single", "r", "x"))[0][0][1:3], (0, 9))
        for right in (Frac(19, 2), 9):
            problem = Problem([Variable("x", 0, 9, whole=True)], [Row("r", [1], "<=", right)])
            self.assertEqual(self.inner(problem, ("single", "r", "x"))[0][0][1:3], (0, 9))

    def test_a_missing_end(self):
        problem = Problem([Variable("x", 0, None), Variable("y", None, 4)], [Row("r", [1, 0], "<=", 7), Row("s", [0, -2], "<=", 7)])
        found = self.inner(problem, ("single", "r", "x"), ("single", "s", "y"))
        self.assertEqual(found[0], [("x", 0, 7, False, "down"), ("y", Frac(-7, 2), 4, False, "up")])
        problem = Problem([Variable("x", 1, None)], [Row("r", [1], "=", 7)])
        self.assertEqual(self.inner(problem, ("single", "r", "x"))[0], [("x", 7, 7, False, "down")])

    def test_a_crossed_box(self):
        for sense, right in (("<=", -1), (">=", 10), ("=", -1), ("=", 10), ("=", Frac(19, 2))):
            for whole in (False, True):
                self.empty(xy(("r", [1, 0], sense, right), whole=whole), ("single", "r", "x"))
        problem = Problem([Variable("x", None, 3), Variable("y", 5, None)], [Row("r", [-1, 0], "<=", -4)])
        self.empty(problem, ("single", "r", "x"))

    def test_a_crossed_box_behind_other_steps(self):
        problem = xy(("a", [2, 0], ">=", 5), ("b", [2, 0], "<=", 5), whole=True)
        self.empty(problem, ("single", "a", "x"), ("single", "b", "x"))
        problem = xy(("a", [1, 0], ">=", 5), ("b", [1, 0], "<=", 3), ("c", [0, 1], "=", 3))
        self.empty(problem, ("single", "a", "x"), ("single", "b", "x"))


class FixedVariables(Presolving):
    def test_the_last_one_stays(self):
        problem = Problem([Variable("x", 1, 1), Variable("y", 2, 2), Variable("z", 3, 3)], [], [Aim("max", [1, 10, 100], HALF)])
        found = self.inner(problem, ("fixed", "x"), ("fixed", "y"))
        self.assertEqual(found, ([("z", 3, 3, False, "down")], [], [("max", (100,), Frac(43, 2))]))

    def test_an_end_alone_does_not_fix(self):
        self.trace(Problem([Variable("x", 1, None), Variable("y", None, 1)]))

    def test_fixed_whole_variables(self):
        problem = Problem([Variable("x", 2, 2, whole=True), Variable("y", 0, 3, whole=True), Variable("z", 0, 1, whole=True)],
                          [Row("r", [3, 1, 1], "=", 8)], [Aim("min", [1, 1, 0])])
        found = self.inner(problem, ("fixed", "x"), ("end", "r", "y", "low"), ("end", "r", "y", "high"))
        self.assertEqual(found, ([("y", 1, 2, True, "down"), ("z", 0, 1, True, "down")], [("r", (1, 1), "=", 2)], [("min", (1, 0), 2)]))


class SlackRows(Presolving):
    def test_rows_that_hold_in_the_boxes(self):
        for row, sense, right, holds in (
            ([1, -1], "<=", 9, True), ([1, -1], "<=", Frac(17, 2), False), ([1, -1], ">=", -9, True),
            ([1, -1], ">=", Frac(-17, 2), False), ([1, 1], "<=", 18, True), ([1, 1], ">=", 0, True), ([-2, -3], ">=", -45, True),
            ([-2, -3], ">=", -44, False),
        ):
            self.trace(xy(("r", row, sense, right)), *([("slack", "r")] if holds else []))

    def test_missing_ends(self):
        problem = Problem([Variable("x"), Variable("y", None, 3)], [Row("r", [1, -1], ">=", -3), Row("s", [-1, 1], "<=", 3)])
        self.trace(problem, ("slack", "r"), ("slack", "s"))
        problem = Problem([Variable("x"), Variable("y", None, 3)], [Row("r", [1, -1], ">=", -2)])
        self.trace(problem)
        problem = Problem([Variable("x"), Variable("y")], [Row("r", [1, 1], ">=", 5), Row("s", [1, -1], "<=", 2)])
        self.trace(problem)

    def test_equations_are_not_slack(self):
        self.trace(xy(("r", [1, 1], "=", 9)))


class DoubledRows(Presolving):
    def check(self, first, second, outcome, empty=False):
        """first and second are (sense, right) with coefficients 1, 2 and z, 2 * z."""
        for z in (1, 3, HALF):
            for sign in (1, -1):
                turned = {"<=": ">=", ">=": "<=", "=": "="} if sign < 0 else {"<=": "<=", ">=": ">=", "=": "="}
                factor = sign * z
                rows = [("i", [1, 2], *first), ("k", [factor, 2 * factor], turned[second[0]], factor * second[1])]
                problem = xy(*rows, x=(0, 9), y=(0, 9))
                if empty:
                    self.empty(problem, ("doubled", "k", "i"))
                    continue
                names = [row[0] for row in self.inner(problem, *outcome)[1]]
                self.assertEqual(names, [name for name in "ik" if ("doubled", name) not in [step[:2] for step in outcome]])

    def test_the_later_row_says_less(self):
        out = [("doubled", "k", "i")]
        self.check(("<=", 5), ("<=", 6), out)
        self.check((">=", 5), (">=", 4), out)
        self.check(("=", 5), ("<=", 6), out)
        self.check(("=", 5), (">=", 5), out)

    def test_equal_rows(self):
        for sense in ("<=", ">=", "="):
            self.check((sense, 5), (sense, 5), [("doubled", "k", "i")])

    def test_the_earlier_row_says_less(self):
        out = [("doubled", "i", "k")]
        self.check(("<=", 6), ("<=", 5), out)
        self.check((">=", 4), (">=", 5), out)
        self.check(("<=", 6), ("=", 6), out)
        self.check((">=", 4), ("=", 6), out)

    def test_neither(self):
        self.check(("<=", 6), (">=", 4), [])
        self.check((">=", 4), ("<=", 6), [])
        self.check((">=", 6), ("<=", 6), [])

    def test_no_number_in_both(self):
        for first, second in ((("<=", 4), (">=", 5)), ((">=", 5), ("<=", 4)), (("=", 4), ("=", 5)), (("=", 4), (">=", 5)),
                              ((">=", 5), ("=", 4)), (("=", 5), ("<=", 4)), (("<=", 5), ("=", 6))):
            self.check(first, second, None, empty=True)

    def test_pairs_in_their_order(self):
        rows = [("a", [1, 2], "<=", 9), ("b", [1, 1], "<=", 8), ("c", [2, 2], "<=", 17), ("d", [2, 4], "<=", 19),
                ("e", [-1, -1], ">=", -7)]
        self.trace(xy(*rows, x=(0, 20), y=(0, 20)), ("doubled", "d", "a"), ("doubled", "c", "b"), ("doubled", "b", "e"))

    def test_rows_that_are_not_multiples(self):
        self.trace(xy(("a", [1, 2], "<=", 9), ("b", [1, 3], "<=", 9)))
        self.trace(xy(("a", [1, 2], "<=", 9), ("b", [-1, 2], "<=", 9)))

    def test_with_fixed_variables(self):
        problem = Problem([Variable("x", 0, 9), Variable("f", 4, 4), Variable("y", 0, 9)],
                          [Row("i", [1, 5, 1], ">=", 24), Row("k", [2, -1, 2], "<=", 2)])
        self.trace(problem, ("fixed", "f"), ("doubled", "k", "i"))
        self.assertEqual(self.trace(problem, ("fixed", "f"), ("doubled", "k", "i")).inner, None)


class ImpliedEnds(Presolving):
    def test_both_sides_and_signs(self):
        for row, sense, right, variables, step, expected in (
            ([2, 1], "<=", 8, (("x", 0, None), ("y", 1, 5)), ("x", "high"), (0, Frac(7, 2))),
            ([-2, 1], ">=", -8, (("x", 0, None), ("y", 1, 5)), ("x", "high"), (0, Frac(13, 2))),
            ([2, 1], ">=", 8, (("x", None, 9), ("y", 1, 5)), ("x", "low"), (Frac(3, 2), 9)),
            ([-2, 1], "<=", 8, (("x", None, 9), ("y", 1, 5)), ("x", "low"), (Frac(-7, 2), 9)),
            ([2, -1], "<=", 8, (("x", 0, None), ("y", 1, 5)), ("x", "high"), (0, Frac(13, 2))),
            ([2, -1], ">=", 8, (("x", None, 9), ("y", 1, 5)), ("x", "low"), (Frac(9, 2), 9)),
        ):
            problem = Problem([Variable(*variable) for variable in variables], [Row("r", row, sense, right)])
            found = self.inner(problem, ("end", "r", *step))
            self.assertEqual(found[0][0][1:3], expected)
            self.assertEqual(len(found[1]), 1)

    def test_equations(self):
        problem = Problem([Variable("x"), Variable("y")], [Row("r", [1, 2], "=", 8)])
        found = self.inner(problem, ("end", "r", "x", "high"), ("end", "r", "y", "high"))
        self.assertEqual([variable[1:3] for variable in found[0]], [(0, 8), (0, 4)])
        problem = Problem([Variable("x"), Variable("y", 1, 3)], [Row("r", [1, -2], "=", 8)])
        self.trace(problem, ("end", "r", "x", "high"))

    def test_other_terms_without_ends(self):
        self.trace(Problem([Variable("x"), Variable("y", None, 5)], [Row("r", [1, 1], "<=", 8)]))
        self.trace(Problem([Variable("x"), Variable("y"), Variable("z")], [Row("r", [1, -1, -1], "<=", 8)]))
        problem = Problem([Variable("x"), Variable("y"), Variable("z")], [Row("r", [1, -1, 0], "<=", 8), Row("s", [0, 1, 1], "<=", 3)])
        self.trace(problem, ("end", "s", "y", "high"), ("end", "r", "x", "high"), ("end", "s", "z", "high"))

    def test_no_narrower_end_where_no_variable_is_whole(self):
        self.trace(xy(("r", [1, 1], "<=", 3)))

    def test_whole_variables(self):
        problem = xy(("r", [2, 1], "<=", 8), y=(1, 5), whole=True)
        self.assertEqual(self.inner(problem, ("end", "r", "x", "high"))[0][0][1:3], (0, 3))
        problem = xy(("r", [2, 1], ">=", 9), y=(1, 5), whole=True)
        self.assertEqual(self.inner(problem, ("end", "r", "x", "low"))[0][0][1:3], (2, 9))
        problem = xy(("r", [-2, 1], "<=", -6), y=(1, 5), whole=True)
        self.assertEqual(self.inner(problem, ("end", "r", "x", "low"))[0][0][1:3], (4, 9))
        problem = xy(("r", [2, 1], "<=", 18), y=(1, 5), x=(0, 8), whole=True)
        self.trace(problem)

    def test_at_most_one_narrower(self):
        problem = xy(("r", [2, 1], "<=", Frac(37, 2)), y=(1, 5), whole=True)
        self.assertEqual(self.inner(problem, ("end", "r", "x", "high"))[0][0][1:3], (0, 8))
        problem = xy(("r", [2, 1], "<=", 19), y=(1, 5), whole=True)
        self.trace(problem)

    def test_rows_variables_and_sides_in_their_order(self):
        items = [Variable("x", 0, 9, whole=True), Variable("y", 0, 9, whole=True)]
        problem = Problem(items, [Row("r", [1, 1], "=", 5), Row("s", [1, -2], "=", 1)])
        self.empty(problem, ("end", "r", "x", "high"), ("end", "r", "y", "high"), ("end", "s", "x", "low"),
                   ("end", "r", "y", "high"), ("end", "s", "y", "high"), ("end", "r", "x", "low"), ("end", "s", "y", "low"),
                   ("end", "r", "x", "high"), ("end", "s", "y", "high"), ("fixed", "y"), ("single", "r", "x"), ("single", "s", "x"))

    def test_crossed_boxes(self):
        self.empty(xy(("r", [1, 1], ">=", 19), x=(None, 9)), ("end", "r", "x", "low"))
        self.empty(xy(("r", [1, 1], "<=", -1), x=(0, None)), ("end", "r", "x", "high"))
        self.empty(xy(("r", [2, 1], ">=", 24), y=(0, 5), whole=True), ("end", "r", "x", "low"))
        self.empty(xy(("r", [2, 1], "<=", -1), y=(0, 5), whole=True), ("end", "r", "x", "high"))

    def test_crossed_behind_narrower_boxes(self):
        items = [Variable("x", 0, 9, whole=True), Variable("y", 0, 9, whole=True)]
        problem = Problem(items, [Row("a", [2, 0], ">=", 7), Row("b", [0, 2], ">=", 7), Row("c", [1, 1], "<=", 7)])
        self.empty(problem, ("single", "a", "x"), ("single", "b", "y"), ("end", "c", "x", "high"))
        problem = Problem(items, [Row("a", [2, 3], "=", 7), Row("b", [3, -2], "=", 5)])
        trace = presolve(problem)
        self.assertIsNone(trace.inner)
        self.trace(problem, *presolved(problem)[1])

    def test_chance(self):
        chance = random.Random(71)
        found = 0
        for _ in range(300):
            problem = some_mixed(chance, 4, 5, whole=8)
            steps = presolved(problem)[1]
            self.trace(problem, *steps)
            found += len([step for step in steps if step[0] == "end"])
        self.assertGreater(found, 50)


if __name__ == "__main__":
    unittest.main()
