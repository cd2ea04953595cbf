"""Points 69 and 70: points and answers led from the inner problem back to the outer one."""

import copy
import random
import unittest

from bestpapers.answers import Answer
from bestpapers.errors import Unfit, WrongWidth
from bestpapers.fracs import Frac
from bestpapers.heads import assembled, head_of, repriced
from bestpapers.judges import judge
from bestpapers.judging import shows
from bestpapers.nodes import Node
from bestpapers.paperforms import fits, paper_counts, paper_nodes, papers_inside
from bestpapers.points import is_feasible
from bestpapers.presolving import presolve
from bestpapers.problems import Problem
from bestpapers.refusals import Decided
from bestpapers.rows import Aim, Row
from bestpapers.solving import solve
from bestpapers.stages import stage_vector
from bestpapers.variables import Variable
from tests.algebra import some_number
from tests.helpers import fault, shape
from tests.made_papers import mixed_paper, numbers_in, some_reason
from tests.plain_presolver import nested, presolved
from tests.test_judging import some_paper
from tests.test_solving import claim
from tests.whole_papers import feasible_points

HALF = Frac(1, 2)


def sample():
    """Ends set: x at most 3 and at least 1; y is fixed; the inner problem has x and z."""
    return Problem(
        [Variable("x", 0, 9, whole=True), Variable("y", 2, 2), Variable("z")],
        [Row("a", [2, 1, 0], "<=", 9), Row("b", [2, 0, 1], ">=", 4), Row("c", [3, 0, 0], ">=", 2), Row("d", [1, 3, 1], "<=", 13)],
        [Aim("max", [1, 1, 1], 5), Aim("min", [1, -1, 0])],
    )


def decided():
    return Problem([Variable("x", 0, 1)], [Row("r", [1], ">=", 2)])


def heads_of(paper):
    """The heads of all nodes of a paper, each before those inside it."""
    found = [head_of(paper)]
    for inner in papers_inside(paper):
        found += heads_of(inner)
    return found


def with_prices(paper, change):
    """A paper in which every tuple of prices is changed."""
    return assembled([repriced(head, change) for head in heads_of(paper)])


def with_copied_row(problem, at, paper):
    """The paper in which all prices at a row "<=" or ">=" stand at an added row that says the same."""
    row = problem.rows[at]
    sign = 1 if row.sense == ">=" else -1

    def moved(prices):
        left = prices[:at] + (Frac(0),) + prices[at + 1:]
        return left[:problem.m] + (abs(prices[at]),) + left[problem.m:]

    prices = tuple(sign if k == at else 0 for k in range(problem.m))
    coefficients = tuple(sign * number for number in row.coefficients)
    return ("derive", coefficients, sign * row.right, ("added", prices), with_prices(paper, moved))


class Traces(unittest.TestCase):
    def check_back(self, problem, trace, answer):
        """Lead an answer back, and look at the form of the result."""
        before = copy.deepcopy(vars(answer))
        result = trace.back(answer)
        self.assertEqual(vars(answer), before)
        self.assertIsInstance(result, Answer)
        self.assertEqual((result.kind, result.totals, result.at), (answer.kind, answer.totals, answer.at))
        self.assertEqual(result.point, None if answer.point is None else trace.point_back(answer.point))
        inner = [variable.name for variable in trace.inner.variables]
        if answer.ray is None:
            self.assertIsNone(result.ray)
        else:
            ray = dict(zip(inner, answer.ray))
            self.assertEqual(result.ray, tuple(ray.get(variable.name, 0) for variable in problem.variables))
        self.check_paper(problem, trace, answer.paper, result.paper)
        whole, numbers = numbers_in(result.paper)
        self.assertEqual({number.__class__ for number in whole} - {int}, set())
        self.assertEqual({number.__class__ for number in numbers} - {Frac}, set())
        self.assertTrue(fits(problem, result.paper))
        return result

    def check_paper(self, problem, trace, inner_paper, paper):
        names = [variable.name for variable in problem.variables]
        ends = presolved(problem)[2]
        for name, side, end in ends:
            word, coefficients, right, reason, inside = paper
            sign = 1 if side == "low" else -1
            self.assertEqual(word, "derive")
            self.assertEqual(coefficients, tuple(sign if other == name else 0 for other in names))
            self.assertEqual(right, sign * Frac(end.numerator, end.denominator))
            self.assertEqual(reason[0], "rounded" if problem[name].whole else "added")
            paper = inside
        self.assertEqual(list(paper_nodes(paper)), list(paper_nodes(inner_paper)))
        for head, inner_head in zip(heads_of(paper), heads_of(inner_paper)):
            self.check_head(problem, trace.inner, head, inner_head)

    def check_head(self, problem, inner, head, inner_head):
        places = [problem.variables.index(problem[variable.name]) for variable in inner.variables]
        if head[0] == "branch":
            self.assertEqual(head, ("branch", places[inner_head[1]], inner_head[2]))
        if head[0] == "listed":
            self.assertEqual(head, inner_head)
        if head[0] == "floors":
            stages = list(range(len(inner.aims))) + [len(inner.aims) + place for place in places]
            many = len(inner_head[1])
            expected = 0 if not many else stages[many - 1] + 1
            if many == len(stages):
                expected = len(problem.aims) + problem.n
            self.assertEqual(len(head[1]), expected)
        if head[0] == "derive":
            row = dict(zip(places, inner_head[1]))
            self.assertEqual(head[1], tuple(row.get(at, 0) for at in range(problem.n)))
            self.assertEqual(head[2], inner_head[2])
            self.assertEqual(head[3][0], inner_head[3][0])
            if head[3][0] == "split":
                self.assertEqual(head[3][1:3], (places[inner_head[3][1]], inner_head[3][2]))

    def check_accepted(self, problem, trace, answer):
        self.assertIs(judge(trace.inner, answer), True)
        result = self.check_back(problem, trace, answer)
        self.assertIs(judge(problem, result), True)
        return result


class Points(unittest.TestCase):
    def test_sample(self):
        trace = presolve(sample())
        self.assertEqual([variable.name for variable in trace.inner.variables], ["x", "z"])
        self.assertEqual(trace.point_in((1, 2, HALF)), (1, HALF))
        self.assertEqual(trace.point_in([7, -3, 4]), (7, 4))
        self.assertEqual(trace.point_back((1, HALF)), (1, 2, HALF))
        self.assertEqual(trace.point_back([-7, 40]), (-7, 2, 40))
        self.assertEqual(shape(trace.point_in([1, 2, 3])), ("tuple", ["Frac"] * 2))
        self.assertEqual(shape(trace.point_back([1, 2])), ("tuple", ["Frac"] * 3))

    def test_without_steps(self):
        trace = presolve(Problem([Variable("x"), Variable("y")]))
        self.assertEqual((trace.point_in((3, 4)), trace.point_back([3, 4])), ((3, 4), (3, 4)))

    def test_feasible_or_not(self):
        chance = random.Random(69)
        counts = {True: 0, False: 0}
        for problem in nested(169, 500):
            trace = presolve(problem)
            if trace.inner is None:
                continue
            for _ in range(3):
                point = tuple(chance.choice((some_number(chance), chance.randint(-1, 2))) for _ in range(trace.inner.n))
                back = trace.point_back(point)
                self.assertIs(is_feasible(trace.inner, point), is_feasible(problem, back))
                counts[is_feasible(problem, back)] += 1
                self.assertEqual(trace.point_in(back), point)
            found = solve(problem)
            if found.point is not None:
                self.assertEqual(trace.point_back(trace.point_in(found.point)), found.point)
        self.assertGreater(min(counts.values()), 50)

    def test_wrong_widths(self):
        trace = presolve(sample())
        for wrong in ((), (1,), (1, 2), [1, 2, 3, 4]):
            self.assertEqual(fault(trace.point_in, wrong), (WrongWidth, {"have": len(wrong), "need": 3}))
        for wrong in ((), [1], (1, 2, 3)):
            self.assertEqual(fault(trace.point_back, wrong), (WrongWidth, {"have": len(wrong), "need": 2}))

    def test_decided_first(self):
        trace = presolve(decided())
        for point in ((), (1,), (1, 2)):
            self.assertEqual(fault(trace.point_in, point), (Decided, {}))
            self.assertEqual(fault(trace.point_back, point), (Decided, {}))


class Errors(unittest.TestCase):
    def test_decided_before_unfit(self):
        trace = presolve(decided())
        for answer in (Answer.empty(("empty", (1,))), Answer.empty(("empty", (1, 2))), Answer.told((), (), ("floors", ()))):
            self.assertEqual(fault(trace.back, answer), (Decided, {}))

    def test_unfit(self):
        trace = presolve(sample())
        m = trace.inner.m
        self.assertEqual(m, 2)
        right = ("empty", (0,) * m)
        for answer in (
            Answer.empty(("empty", (0,) * (m + 1))), Answer.empty(("empty", (0,) * 4)), Answer.empty(("branch", 1, 1, right, right)),
            Answer.empty(("derive", (1, 0, 0), 1, ("added", (0,) * m), right)),
            Answer.told((1, 2), (1, 2, 3), right), Answer.best((1, 2), (1,), right), Answer.told((1, 2), (), right),
            Answer.endless(0, (), (1, 2, 3), (1, 1), right), Answer.endless(0, (), (1, 2), (1, 1, 1), right),
            Answer.endless(0, (), (1, 2), (), right), Answer.endless(0, (), (1, 2), (1, 2), ("empty", (0,))),
        ):
            self.assertEqual(fault(trace.back, answer), (Unfit, {}))
        self.assertIsNone(fault(trace.back, Answer.endless(0, (), (1, 2), (1, 1), right)))


class Back(Traces):
    def test_sample(self):
        trace = presolve(sample())
        self.assertEqual(trace.steps, (("single", "c", "x"), ("fixed", "y"), ("single", "a", "x"), ("end", "d", "z", "high")))
        result = self.check_accepted(sample(), trace, solve(trace.inner))
        self.assertEqual(claim(result), claim(solve(sample())))
        found = [(head[1], head[2], head[3][0]) for head in heads_of(result.paper)[:3]]
        self.assertEqual(found, [((1, 0, 0), 1, "rounded"), ((-1, 0, 0), -3, "rounded"), ((0, 0, -1), -6, "added")])

    def test_without_steps(self):
        problem = Problem([Variable("x", 0, 3), Variable("y", 0, 3)], [Row("r", [1, 1], ">=", 2)], [Aim("min", [1, 1])])
        trace = presolve(problem)
        answer = solve(problem)
        result = self.check_accepted(problem, trace, answer)
        self.assertEqual(result.paper, answer.paper)

    def test_answers_of_the_solver(self):
        kinds = {}
        for problem in nested(70, 200) + nested(71, 150, rich=True) + nested(171, 100, whole=9, rich=True):
            trace = presolve(problem)
            if trace.inner is None:
                continue
            for cuts in (0, 1, 4):
                answer = solve(trace.inner, cuts=cuts)
                result = self.check_accepted(problem, trace, answer)
                self.assertEqual(claim(result), claim(solve(problem)))
                kinds[answer.kind, len(trace.steps) > 0] = kinds.get((answer.kind, len(trace.steps) > 0), 0) + 1
        self.assertGreater(min(kinds.get((kind, True), 0) for kind in ("told", "empty", "endless")), 10, kinds)

    def test_best_answers(self):
        found = 0
        for problem in nested(72, 100) + nested(72, 100, whole=2, rich=True):
            trace = presolve(problem)
            told = None if trace.inner is None else solve(trace.inner)
            if told is None or told.kind != "told" or told.paper[0] != "floors":
                continue
            many = len(problem.aims)
            answer = Answer.best(told.totals, told.point, ("floors", told.paper[1][:many]))
            self.check_accepted(problem, trace, answer)
            found += 1
        self.assertGreater(found, 30)

    def test_papers_with_rows_of_every_reason(self):
        """Papers that no solver made, for problems that are all whole."""
        chance, words = random.Random(73), []
        for problem in nested(73, 300, whole=10, rich=True):
            trace = presolve(problem)
            if trace.inner is None or trace.inner.assignments > 60 or trace.inner.m == 0:
                continue
            points = feasible_points(trace.inner)
            targets = stage_vector(trace.inner, points[0]) if points else None
            for many in range(2):
                paper = mixed_paper(chance, Node(trace.inner), targets)
                answer = Answer.empty(paper)
                if points:
                    answer = Answer.told([aim.amount(points[0]) for aim in trace.inner.aims], points[0], paper)
                self.check_accepted(problem, trace, answer)
                words += [head[3][0] if head[0] == "derive" else head[0] for head in heads_of(paper)]
        counts = [words.count(word) for word in ("empty", "floors", "branch", "added", "rounded", "split")]
        self.assertGreater(min(counts), 20, counts)

    def test_copied_rows(self):
        chance, found = random.Random(74), 0
        for problem in nested(74, 150, rich=True):
            trace = presolve(problem)
            if trace.inner is None:
                continue
            for at, row in enumerate(trace.inner.rows):
                if row.sense == "=":
                    continue
                answer = solve(trace.inner, cuts=chance.randint(0, 2))
                paper = with_copied_row(trace.inner, at, answer.paper)
                self.check_accepted(problem, trace, Answer(answer.kind, answer.totals, answer.point, answer.at, answer.ray, paper))
                found += 1
        self.assertGreater(found, 60)

    def test_less_than_all_stages(self):
        """What a paper shows for the first targets alone it shows in the outer problem, too."""
        found = 0
        for problem in nested(75, 150) + nested(75, 100, whole=3, rich=True):
            trace = presolve(problem)
            told = None if trace.inner is None else solve(trace.inner)
            if told is None or told.kind != "told" or told.paper[0] != "floors":
                continue
            vector = stage_vector(trace.inner, told.point)
            outer_vector = stage_vector(problem, trace.point_back(told.point))
            for many in range(len(vector)):
                paper = ("floors", told.paper[1][:many])
                self.assertTrue(shows(trace.inner, vector[:many], paper))
                result = self.check_back(problem, trace, Answer.told((), told.point, paper))
                lines = len(result.paper[1]) if result.paper[0] == "floors" else None
                if lines is not None:
                    self.assertTrue(shows(problem, outer_vector[:lines], result.paper))
                found += 1
        self.assertGreater(found, 60)

    def test_papers_that_are_not_right(self):
        """They are led back, too, as long as they fit."""
        chance, words = random.Random(76), []
        for problem in nested(76, 400, rich=True):
            trace = presolve(problem)
            if trace.inner is None:
                continue
            paper = some_paper(chance, trace.inner, trace.inner.m, 4)
            if chance.randint(0, 1):
                paper = assembled([("listed", chance.randint(-2, 2)) if head[0] == "empty" else head
                                   for head in heads_of(paper)])
            answer = Answer.told((1, 2), [some_number(chance) for _ in range(trace.inner.n)], paper)
            if not fits(trace.inner, paper):
                self.assertEqual(fault(trace.back, answer), (Unfit, {}))
                continue
            self.check_back(problem, trace, answer)
            words += [word for word, count in paper_counts(paper).items() if count]
        self.assertEqual(sorted(set(words)), ["branch", "derive", "empty", "floors", "listed"])

    def test_reasons(self):
        """Rows of every reason above the paper of the solver."""
        chance, found = random.Random(77), {}
        for problem in nested(77, 200, whole=10, rich=True):
            trace = presolve(problem)
            if trace.inner is None:
                continue
            row = tuple(chance.randint(-2, 2) for _ in range(trace.inner.n))
            made = some_reason(chance, Node(trace.inner), row)
            if not made:
                continue
            m, answer = trace.inner.m, solve(trace.inner)
            paper = with_prices(answer.paper, lambda prices: prices[:m] + (Frac(0),) + prices[m:])
            paper = ("derive", row, made[0], made[1], paper)
            self.check_accepted(problem, trace, Answer(answer.kind, answer.totals, answer.point, answer.at, answer.ray, paper))
            found[made[1][0]] = found.get(made[1][0], 0) + 1
        self.assertGreater(min(found.get(word, 0) for word in ("added", "rounded", "split")), 10, found)


if __name__ == "__main__":
    unittest.main()
