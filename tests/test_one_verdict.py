"""Point 2: one verdict for every problem, by every way."""

import random
import unittest

from bestpapers.allpoints import by_points
from bestpapers.answers import Answer
from bestpapers.changes import with_aims, with_coefficient, with_ends, with_right, with_rows, with_whole
from bestpapers.corners import by_corners
from bestpapers.firstpoints import first_points
from bestpapers.judges import judge
from bestpapers.nodes import Node
from bestpapers.presolved import solve_presolved
from bestpapers.problems import Problem
from bestpapers.rows import Aim, Row
from bestpapers.sessions import Session
from bestpapers.settling import settled
from bestpapers.solving import solve
from bestpapers.webproblems import pairing_problem, transport_problem, web_problem
from tests.algebra import some_mixed, some_number, some_row
from tests.helpers import fault, picture
from tests.plain_presolver import nested
from tests.some_webs import some_web
from tests.test_heldsets import searched
from tests.test_solving import claim


def elsewhere(chance, problem):
    """The same problem with some other right sides, coefficients, ends, rows and aims, and other wholeness."""
    other = problem
    for row in problem.rows:
        if chance.randint(0, 1):
            other = with_right(other, row.name, some_number(chance))
        if chance.randint(0, 2) == 0:
            other = with_coefficient(other, row.name, chance.choice(problem.variables).name, some_number(chance))
    for variable in problem.variables:
        if variable.whole:
            other = with_whole(other, variable.name, False)
        if chance.randint(0, 2) == 0 and variable.low is not None and variable.pull == "down":
            other = with_ends(other, variable.name, variable.low - chance.randint(0, 2), variable.high)
    other = with_rows(other, Row("more", some_row(chance, problem.n), chance.choice(("<=", ">=")), some_number(chance)))
    return with_aims(other, [Aim("max", some_row(chance, problem.n))])


def led_home(chance, session, problem):
    """Change the problem of a session, step by step, into a given one; solve it on the way."""
    steps = [(session.drop_row, ("more",)), (session.turn_aims, (list(problem.aims),))]
    for row in problem.rows:
        steps.append((session.__setitem__, (row.name, row.right)))
        for variable, number in zip(problem.variables, row.coefficients):
            steps.append((session.move_coefficient, (row.name, variable.name, number)))
    for variable in problem.variables:
        steps.append((session.move_ends, (variable.name, variable.low, variable.high)))
    chance.shuffle(steps)
    steps += [(session.make_whole, (variable.name, True)) for variable in problem.variables if variable.whole]
    for call, values in steps:
        call(*values)
        if chance.randint(0, 3) == 0:
            session.solve()


class OneVerdict(unittest.TestCase):
    def check(self, chance, problem):
        """All ways that may be asked lead to the same kind, totals, point and at."""
        before = picture(problem)
        first = solve(problem)
        self.assertIn(first.kind, ("told", "empty", "endless"))
        answers = [solve(problem, cuts=cuts) for cuts in range(5)] + [solve_presolved(problem, cuts=cuts) for cuts in (0, 2)]
        sets = searched(Node(problem)) if problem.n + problem.m <= 8 else []
        answers += [solve(problem, cuts=chance.randint(0, 4), start=start) for start in chance.sample(sets, min(3, len(sets)))]
        answers += self.by_sessions(chance, problem)
        whole = [variable.whole for variable in problem.variables]
        if not any(whole) and first.point is not None:
            answers += [settled(problem, Answer.best((), first.point, ("floors", ()))), settled(problem, Answer.told((), first.point, ("floors", ())))]
        for answer in [first] + answers:
            self.assertEqual(claim(answer), claim(first))
            self.assertIs(judge(problem, answer), True)
        if all(whole):
            self.assertEqual(by_points(problem), first.point)
            self.assertEqual(first_points(problem, 1).points, () if first.point is None else (first.point,))
        if not any(whole) and first.kind != "endless" and problem.n + problem.m <= 6:
            self.assertEqual(by_corners(problem), first.point)
        self.assertEqual(picture(problem), before)
        return first.kind

    def by_sessions(self, chance, problem):
        answers = []
        for _ in range(2):
            session = Session(elsewhere(chance, problem))
            session.solve()
            led_home(chance, session, problem)
            self.assertEqual(picture(session.problem), picture(problem))
            session.use_cuts(chance.randint(0, 4))
            answers += [session.solve(), session.solve()]
        return answers

    def check_all(self, chance, problems, kinds):
        found = {}
        for problem in problems:
            if problem.m == 16 or problem.assignments > 64:
                continue
            kind = self.check(chance, problem)
            found[kind] = found.get(kind, 0) + 1
        self.assertEqual(sorted(found), sorted(kinds), found)

    def test_without_whole_variables(self):
        chance = random.Random(1)
        self.check_all(chance, [some_mixed(chance, 3, 3) for _ in range(80)], ("told", "empty", "endless"))

    def test_mixed(self):
        chance = random.Random(2)
        self.check_all(chance, [some_mixed(chance, 3, 3, whole=4) for _ in range(80)], ("told", "empty", "endless"))

    def test_all_whole(self):
        chance = random.Random(3)
        self.check_all(chance, [some_mixed(chance, 3, 3, whole=10) for _ in range(80)], ("told", "empty"))

    def test_problems_for_the_presolver(self):
        chance = random.Random(4)
        self.check_all(chance, nested(5, 50) + nested(6, 40, rich=True), ("told", "empty", "endless"))

    def test_problems_of_webs(self):
        chance = random.Random(7)
        problems = [web_problem(some_web(chance, 6, places=chance.randint(2, 3), edges=chance.randint(1, 5))) for _ in range(40)]
        problems += [pairing_problem([[chance.randint(-5, 5), 1], [None, chance.randint(-5, 5)]]) for _ in range(5)]
        problems += [transport_problem([3, 2], [chance.randint(0, 3), 2], [[1, chance.randint(-5, 5)], [3, 4]]) for _ in range(5)]
        self.check_all(chance, problems, ("told", "empty", "endless"))

    def test_no_paper_for_a_wrong_claim(self):
        """The paper of one problem is accepted in another one only where the answer is the same."""
        chance = random.Random(8)
        accepted = 0
        for _ in range(300):
            problem = some_mixed(chance, 3, 3, whole=3)
            if not problem.rows or problem.assignments > 64:
                continue
            row = chance.choice(problem.rows)
            other = with_right(problem, row.name, row.right + chance.choice((1, -1)))
            answer = solve(problem)
            if judge(other, answer):
                accepted += 1
                found = solve(other)
                self.assertEqual((found.kind, found.totals, found.at), (answer.kind, answer.totals, answer.at))
                if answer.kind == "told":
                    self.assertEqual(found.point, answer.point)
        self.assertGreater(accepted, 20)


class Chains(unittest.TestCase):
    def test_chains_that_are_refused_in_parts(self):
        """A refused change leaves the verdict as it was."""
        chance = random.Random(9)
        for _ in range(30):
            problem = some_mixed(chance, 3, 2, whole=3)
            session = Session(problem)
            first = claim(session.solve())
            for call, values in ((session.drop_row, ("none",)), (session.move_ends, (problem.variables[0].name, 1, 0)),
                                 (session.make_whole, ("none", True)), (session.put_rows, (Row("q", [1] * 9, "<=", 1),))):
                self.assertIsNotNone(fault(call, *values))
            self.assertIs(session.problem, problem)
            self.assertEqual(claim(session.solve()), first)

    def test_fewer_and_more_aims(self):
        problem = Problem(nested(10, 1, rich=True)[0].variables)
        session = Session(problem)
        for aims in ([], [Aim("min", [1] * problem.n)], [Aim("max", [1] * problem.n), Aim("min", [1] * problem.n)], []):
            session.turn_aims(aims)
            self.assertEqual(claim(session.solve()), claim(solve(with_aims(problem, aims))))


if __name__ == "__main__":
    unittest.main()
