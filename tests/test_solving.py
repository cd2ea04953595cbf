"""Point 63: the solver."""

import itertools
import random
import unittest

from bestpapers.answers import Answer
from bestpapers.changes import first_aims, relaxed, with_whole
from bestpapers.corners import by_corners
from bestpapers.errors import BadCount
from bestpapers.fracs import Frac
from bestpapers.judges import judge
from bestpapers.nodes import Node
from bestpapers.paperforms import paper_counts, paper_nodes, papers_inside
from bestpapers.points import aim_values
from bestpapers.problems import Problem
from bestpapers.refusals import BadHeld, Dependent
from bestpapers.rows import Aim, Row
from bestpapers.solving import solve
from bestpapers.stages import stage_vector
from bestpapers.variables import Variable
from tests.algebra import some_mixed, some_row
from tests.corner_search import told
from tests.helpers import HUGE, fault, shape, variables
from tests.made_papers import numbers_in
from tests.test_heldsets import searched
from tests.test_judging import some_problem
from tests.whole_papers import feasible_points


def halves():
    return Problem([Variable("x", 0, 3, whole=True), Variable("y", 0, 3, whole=True)],
                   [Row("r", [2, 2], "<=", 3)], [Aim("max", [1, 1])])


def claim(answer):
    return answer.kind, answer.totals, answer.point, answer.at


def fixed_parts(problem):
    """The problem without whole variables for each choice of whole numbers."""
    places = [at for at, variable in enumerate(problem.variables) if variable.whole]
    ranges = [range(problem.variables[at].low.num, problem.variables[at].high.num + 1) for at in places]
    loose = relaxed(problem)
    for numbers in itertools.product(*ranges):
        items = list(loose.variables)
        for at, number in zip(places, numbers):
            items[at] = Variable(items[at].name, number, number, pull=items[at].pull)
        yield Problem(items, problem.rows, problem.aims)


def searched_claim(problem):
    """Kind, at and point by a search over all choices of whole numbers and over corners."""
    found = [told(part) for part in fixed_parts(problem)]
    if all(kind == "empty" for kind, _, _ in found):
        return "empty", None, None
    ends = [at for kind, at, _ in found if kind == "endless"]
    if ends:
        return "endless", min(ends), searched_claim(first_aims(problem, min(ends)))[2]
    points = [point for kind, _, point in found if kind == "told"]
    return "told", None, min(points, key=lambda point: stage_vector(problem, point))


class Solving(unittest.TestCase):
    def check(self, problem, cuts=0, start=None):
        """Solve a problem, and look at all that holds for every answer."""
        answer = solve(problem, cuts=cuts, start=start)
        self.assertIsInstance(answer, Answer)
        self.assertIn(answer.kind, ("told", "empty", "endless"))
        self.assertIs(judge(problem, answer), True)
        self.check_form(problem, answer.paper, cuts)
        whole, numbers = numbers_in(answer.paper)
        self.assertTrue(all(number.__class__ is int for number in whole))
        self.assertTrue(all(number.__class__ is Frac for number in numbers))
        if answer.kind == "endless":
            self.assertEqual(shape(answer.at), "int")
            inner = solve(first_aims(problem, answer.at))
            self.assertEqual((inner.kind, inner.point), ("told", answer.point))
            self.assertEqual(answer.totals, aim_values(problem, answer.point)[:answer.at])
        elif answer.kind == "told":
            self.assertEqual(answer.totals, aim_values(problem, answer.point))
        return answer

    def check_form(self, problem, paper, cuts):
        counts = paper_counts(paper)
        others = sum(counts.values()) - counts["derive"]
        self.assertEqual(counts["listed"], 0)
        if not any(variable.whole for variable in problem.variables):
            self.assertIn(paper[0], ("empty", "floors"))
        self.assertLessEqual(counts["derive"], cuts)
        self.assertLessEqual(others, 2 * problem.assignments - 1)
        words = [word for _, word in paper_nodes(paper)]
        self.assertNotIn("derive", words[counts["derive"]:])
        for _ in range(counts["derive"]):
            self.assertEqual(paper[3][0], "split")
            paper = papers_inside(paper)[0]

    def check_all(self, chance, problem):
        """All cuts and several starts lead to the same answer."""
        answer = self.check(problem)
        for cuts in range(1, 5):
            self.assertEqual(claim(self.check(problem, cuts)), claim(answer))
        node = Node(problem)
        sets = searched(node)
        for start in chance.sample(sets, min(3, len(sets))):
            turned = list(start)
            chance.shuffle(turned)
            self.assertEqual(claim(self.check(problem, chance.randint(0, 4), turned)), claim(answer))
        return answer


class Examples(Solving):
    def test_the_document(self):
        problem = Problem([Variable("x", 0, 3), Variable("y", 0, 3)], [Row("r", [1, 1], ">=", 2)], [Aim("min", [1, 1])])
        self.assertEqual(claim(self.check(problem)), ("told", (2,), (0, 2), None))
        self.assertEqual(claim(self.check(halves())), ("told", (1,), (0, 1), None))
        problem = Problem([Variable("x"), Variable("y")], [Row("r", [1, -1], "<=", 1)], [Aim("max", [1, 0])])
        self.assertEqual(claim(self.check(problem)), ("endless", (), (0, 0), 0))

    def test_empty(self):
        problem = Problem([Variable("x", 0, 1)], [Row("r", [1], ">=", 2)], [Aim("max", [1])])
        answer = self.check(problem)
        self.assertEqual((claim(answer), answer.paper[0]), (("empty", (), None, None), "empty"))
        problem = Problem([Variable("x", 0, 3, whole=True), Variable("y")], [Row("r", [2, 0], "=", 3)], [Aim("max", [0, 1])])
        self.assertEqual(claim(self.check(problem)), ("empty", (), None, None))
        self.assertEqual(claim(self.check(relaxed(problem))), ("endless", (), (Frac(3, 2), 0), 0))

    def test_without_aims(self):
        for pull, expected in (("down", (0, 2)), ("up", (2, 0))):
            problem = Problem([Variable("x", 0, 2, pull=pull), Variable("y", 0, 2)], [Row("r", [1, 1], "=", 2)])
            self.assertEqual(claim(self.check(problem)), ("told", (), expected, None))
        self.assertEqual(claim(self.check(Problem(variables(16, high=1)))), ("told", (), (0,) * 16, None))

    def test_max_aims_and_constants(self):
        problem = Problem([Variable("x", 0, 3), Variable("y", 0, 3)], [Row("r", [1, 1], "<=", 4)],
                          [Aim("max", [1, 1], 10), Aim("min", [1, 0], -5)])
        self.assertEqual(claim(self.check(problem)), ("told", (14, -4), (1, 3), None))

    def test_later_aims(self):
        problem = Problem([Variable("x"), Variable("y", 0, 4)], [Row("r", [-1, 1], "<=", 3)],
                          [Aim("max", [0, 1], 10), Aim("max", [1, 0]), Aim("min", [1, 0], 5)])
        answer = self.check(problem)
        self.assertEqual(claim(answer), ("endless", (14,), (1, 4), 1))
        turned = Problem(problem.variables, problem.rows, [problem.aims[0], problem.aims[2], problem.aims[1]])
        self.assertEqual(claim(self.check(turned)), ("told", (14, 6, 1), (1, 4), None))

    def test_missing_ends(self):
        problem = Problem([Variable("x", None, 0), Variable("y", None, 5)], [Row("r", [1, 1], ">=", -9)], [Aim("min", [1, 0])])
        self.assertEqual(claim(self.check(problem)), ("told", (-14,), (-14, 5), None))
        self.assertEqual(claim(self.check(Problem([Variable("x", None, 7)]))), ("told", (), (7,), None))

    def test_endless_with_whole_variables(self):
        problem = Problem([Variable("x", 0, 3, whole=True), Variable("y")], [Row("r", [2, 0], ">=", 3), Row("s", [1, -1], "<=", 5)],
                          [Aim("min", [1, 0]), Aim("max", [0, 1])])
        answer = self.check(problem)
        self.assertEqual((claim(answer), answer.ray[0]), (("endless", (2,), (2, 0), 1), 0))
        first = Problem(problem.variables, problem.rows, [Aim("max", [1, 1])])
        self.assertEqual(claim(self.check(first, 4)), ("endless", (), (2, 0), 0))

    def test_huge_numbers(self):
        problem = Problem([Variable("x", 0, HUGE), Variable("y", Frac(-1, HUGE), HUGE)],
                          [Row("r", [HUGE, Frac(1, HUGE)], "<=", HUGE)], [Aim("max", [Frac(1, HUGE), HUGE - 1])])
        self.assertEqual(self.check(problem).point, (1 - Frac(1, HUGE), HUGE))


class Cuts(Solving):
    def test_bad_counts(self):
        for cuts in (-2, -1, 5, 6, HUGE):
            for start in (None, [0], [0, 0], [2, 9]):
                self.assertEqual(fault(solve, halves(), cuts=cuts, start=start), (BadCount, {"what": "cuts", "many": cuts}))
        for cuts in range(5):
            self.check(halves(), cuts)

    def test_errors_of_the_start(self):
        problem = Problem(halves().variables, [Row("r", [2, 2], "<=", 3), Row("s", [1, 1], "<=", 3)])
        for start in ((), (0,), (0, 0), (0, 4), (-1, 0), (0, 1, 2)):
            for passed in (start, list(start)):
                self.assertEqual(fault(solve, problem, start=passed), (BadHeld, {"chosen": start}))
        self.assertEqual(fault(solve, problem, start=[3, 2]), (Dependent, {"at": 3}))

    def test_no_cuts_unless_they_are_asked_for(self):
        answer = solve(halves())
        self.assertEqual(paper_counts(answer.paper)["derive"], 0)
        self.assertEqual(answer.paper, solve(halves(), cuts=0, start=None).paper)

    def test_cuts_are_used(self):
        problem = Problem([Variable("x", 0, 9, whole=True), Variable("y", 0, 9, whole=True)],
                          [Row("r", [3, 5], "=", 19), Row("s", [6, 7], ">=", 31)], [Aim("max", [2, 3])])
        used = [paper_counts(self.check(problem, cuts).paper)["derive"] for cuts in range(5)]
        self.assertEqual(used[:2], [0, 1])
        for cuts in range(1, 5):
            self.assertEqual(claim(self.check(problem, cuts)), claim(self.check(problem)))


class Searches(Solving):
    def test_without_whole_variables(self):
        chance = random.Random(63)
        kinds = {}
        for _ in range(150):
            problem = some_mixed(chance, 3, 3)
            answer = self.check_all(chance, problem)
            kind, at, point = told(problem)
            kinds[kind] = kinds.get(kind, 0) + 1
            self.assertEqual((answer.kind, answer.at), (kind, at))
            if kind == "told":
                self.assertEqual(answer.point, point)
                self.assertEqual(answer.point, by_corners(problem))
            if kind == "endless":
                self.assertEqual(answer.point, by_corners(first_aims(problem, at)))
        self.assertGreater(min(kinds.values()), 5, kinds)
        self.assertEqual(len(kinds), 3)

    def test_all_whole(self):
        chance = random.Random(64)
        branched = 0
        for _ in range(150):
            problem = some_problem(chance)
            answer = self.check_all(chance, problem)
            points = feasible_points(problem)
            self.assertEqual(answer.kind, "told" if points else "empty")
            self.assertEqual(answer.point, points[0] if points else None)
            branched += answer.paper[0] == "branch"
        self.assertGreater(branched, 10)

    def test_mixed(self):
        chance = random.Random(65)
        kinds = {}
        for _ in range(400):
            problem = some_mixed(chance, 3, chance.choice((1, 3)), whole=5)
            if problem.assignments > 16:
                continue
            answer = self.check_all(chance, problem)
            self.assertEqual((answer.kind, answer.at, answer.point), searched_claim(problem))
            mixed = len({variable.whole for variable in problem.variables}) == 2
            kinds[answer.kind, mixed] = kinds.get((answer.kind, mixed), 0) + 1
        self.assertGreater(min(kinds.get((kind, True), 0) for kind in ("told", "empty", "endless")), 2, kinds)

    def test_whole_or_not(self):
        chance = random.Random(66)
        for _ in range(40):
            problem = some_mixed(chance, 3, 3, whole=10)
            for variable in problem.variables:
                problem = with_whole(problem, variable.name, chance.choice((True, False)))
            self.check_all(chance, problem)

    def test_wide_problems(self):
        chance = random.Random(67)
        for seed in range(6):
            items = [Variable(f"x{at}", 0, 1, whole=True) for at in range(8)]
            items += [Variable(f"y{at}", 0, 4) for at in range(8)]
            rows = [Row(f"r{at}", some_row(chance, 16, 9), chance.choice(("<=", ">=")), chance.randint(-5, 9))
                    for at in range(seed * 3)]
            aims = [Aim("max", some_row(chance, 16, 5)) for _ in range(seed % 4)]
            problem = Problem(items, rows, aims)
            self.assertEqual(claim(self.check(problem)), claim(self.check(problem, 4)))

    def test_a_whole_tree(self):
        problem = Problem([Variable(f"x{at}", 0, 1, whole=True) for at in range(8)], [Row("r", [2] * 8, "=", 9)])
        answer = self.check(problem)
        self.assertEqual((answer.kind, paper_counts(answer.paper)["floors"]), ("empty", 0))
        self.assertEqual(claim(self.check(problem, 4)), claim(answer))


if __name__ == "__main__":
    unittest.main()
