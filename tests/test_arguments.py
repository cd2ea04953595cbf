"""Points 3 to 5 over the whole program: numbers of both kinds, arguments that stay, results of the told kinds."""

import copy
import random
import unittest

from bestpapers.allpoints import by_points
from bestpapers.answers import Answer
from bestpapers.cheapest import cheapest_flow
from bestpapers.clashes import clash
from bestpapers.desks import Desk
from bestpapers.dual import dual_run
from bestpapers.firstpoints import first_points
from bestpapers.fracs import Frac
from bestpapers.greatest import bar, greatest_flow
from bestpapers.mirrors import mirror
from bestpapers.nodes import Node
from bestpapers.pairings import cheapest_pairing
from bestpapers.presolved import solve_presolved
from bestpapers.presolving import presolve
from bestpapers.problems import Problem
from bestpapers.ranges import aim_range, right_range, row_prices
from bestpapers.reports import report
from bestpapers.roads import heights, shortest_road
from bestpapers.rows import Aim, Row
from bestpapers.sessions import Session
from bestpapers.settling import settled
from bestpapers.solving import solve
from bestpapers.sweeps import sweep
from bestpapers.transports import cheapest_transport
from bestpapers.trials import replayed, run_whole, try_out
from bestpapers.variables import Variable
from bestpapers.webproblems import flow_problem, pairing_problem, road_problem, transport_problem, web_problem
from bestpapers.webs import Web
from tests.helpers import picture
from tests.plain_presolver import nested

HALF = Frac(1, 2)


def seen(value):
    """Everything that can be seen of a value, inside objects, lists and dicts too, as plain values."""
    if value.__class__ in (int, str, bool, None.__class__):
        return value
    if value.__class__ is Frac:
        return ("Frac", value.num, value.den)
    if value.__class__ in (list, tuple):
        return (value.__class__.__name__, [seen(part) for part in value])
    if value.__class__ is dict:
        return ("dict", [(seen(key), seen(part)) for key, part in value.items()])
    if value.__class__ is Problem:
        return ("Problem", seen(list(picture(value))))
    # A table may keep what it has found out.
    told = {name: part for name, part in vars(value).items() if name != "holding"}
    return (value.__class__.__name__, seen(told))


def plain(value):
    """A value in which Fracs that are whole are integers, wherever it is a number."""
    if value.__class__ is Frac:
        return value.num if value.den == 1 else value
    if value.__class__ in (list, tuple):
        return value.__class__(plain(part) for part in value)
    return value


def lists(value):
    """A value in which all tuples are lists."""
    return [lists(part) for part in value] if value.__class__ in (list, tuple) else value


def kinds_in(value):
    """The kinds of all numbers in a value."""
    if value.__class__ in (list, tuple):
        return {kind for part in value for kind in kinds_in(part)}
    return {value.__class__} & {int, Frac, float, bool}


def square():
    return Problem([Variable("x", 0, 3), Variable("y", 0, 3)], [Row("r", [1, 1], ">=", 2), Row("s", [1, HALF], "<=", 4)], [Aim("min", [1, 1])])


def whole_square():
    return Problem([Variable("x", 0, 3, whole=True), Variable("y", 0, 3, whole=True)], [Row("r", [2, 2], ">=", 3)], [Aim("min", [1, 1])])


def web():
    return Web(3, [[0, 1, 0, 2, 1], [1, 2, 0, None, 1], [0, 2, 0, 5, 3]], [3, 0, -3])


def empty():
    return Problem([Variable("x", 0, 1)], [Row("r", [1], ">=", 2)])


def calls():
    """Functions with arguments; all sequences are lists, and lists stand inside lists."""
    table = dual_run(Node(square())).table
    answer = Answer.best([2], [1, 1], ("floors", ()))
    trace = presolve(nested(11, 1, rich=True)[0])
    desk = Desk()
    desk.run("var x 0 4 whole\nvar y 0 4\nrow r 2*x + 2*y <= 5\nmax 1*x + 1*y\nsolve")
    return (
        (first_points, whole_square(), 3), (by_points, whole_square()), (presolve, square()), (solve_presolved, square()),
        (trace.point_in, [1] * trace.outer.n), (trace.point_back, [1] * trace.inner.n), (trace.back, solve(trace.inner)),
        (right_range, table, "r"), (row_prices, table, "s"), (aim_range, table, 0, "x"), (sweep, square(), "r", 0, Frac(9, 2)),
        (clash, empty()), (mirror, square()), (Web, 3, [[0, 1, 0, 2, 1], [1, 2, 0, None, 1]], [3, 0, -3]),
        (web_problem, web()), (flow_problem, web(), 0, 2), (road_problem, web(), 0, 2), (cheapest_flow, web()), (greatest_flow, web(), 0, 2),
        (bar, web(), 0, 2), (heights, web()), (shortest_road, web(), 0, 2),
        (pairing_problem, [[1, 2], [None, 3]]), (cheapest_pairing, [[1, 2], [None, 3]]),
        (transport_problem, [3, 4], [2, 2], [[1, 2], [None, 3]]), (cheapest_transport, [3, 4], [2, 2], [[1, 2], [None, 3]]),
        (settled, square(), answer), (report, square(), answer), (try_out, desk, "aimless\nsolve"), (replayed, desk.journal),
    )


class Arguments(unittest.TestCase):
    def test_arguments_stay(self):
        for function, *values in calls():
            before = seen(values)
            function(*values)
            self.assertEqual(seen(values), before, function)

    def test_lists_and_tuples(self):
        """A sequence may be a list or a tuple, and what is done with it later has no effect."""
        for function, *values in calls():
            lists_inside = [part for part in values if part.__class__ is list]
            if not lists_inside:
                continue
            first = function(*values)
            before = seen(first)
            tuples = [self.tuples(part) if part.__class__ is list else part for part in values]
            self.assertEqual(seen(function(*tuples)), before, function)
            for part in lists_inside:
                for inner in part:
                    if inner.__class__ is list:
                        inner.append(99)
                part.append(99)
            self.assertEqual(seen(first), before, function)

    def tuples(self, value):
        return tuple(self.tuples(part) for part in value) if value.__class__ in (list, tuple) else value

    def test_results_belong_to_the_caller(self):
        for function, *values in calls():
            again = seen(function(*copy.deepcopy(values)))
            found = function(*values)
            if found.__class__ is list:
                found.append("x")
                found.reverse()
            self.assertEqual(seen(function(*values)), again, function)

    def test_sessions(self):
        rows, aims = [Row("t", [1, 0], "<=", 1)], [Aim("max", [1, 2])]
        session = Session(square())
        session.put_rows(*rows)
        session.turn_aims(aims)
        session.move_ends("x", 0, Frac(5, 2))
        aims.append(Aim("min", [1, 1]))
        rows.append(1)
        self.assertEqual((len(session.problem.rows), len(session.problem.aims), session.problem["x"].high), (3, 1, Frac(5, 2)))
        problem = session.problem
        before = seen(problem)
        session.solve()
        session["r"] = 1
        self.assertEqual(seen(problem), before)

    def test_desks(self):
        desk = Desk()
        text = "var x 0 1\nsolve"
        replies = run_whole(desk, text)
        replies.append("x")
        self.assertEqual(desk.journal, (("var x 0 1", "ok"), ("solve", "told at 0")))
        problem, answer = desk.present(), desk.answer
        before = (seen(problem), seen(answer))
        desk.run("ends x 1 2\nsolve\nundo\nundo")
        self.assertEqual((seen(problem), seen(answer)), before)


class Numbers(unittest.TestCase):
    def both(self, function, *values):
        """A call with Fracs, with integers where that is possible, and with both, gives the same Fracs."""
        first = function(*values)
        self.assertEqual(seen(function(*[plain(value) for value in values])), seen(first))
        return first

    def test_integers_and_fracs(self):
        chance = random.Random(3)
        for problem in nested(12, 25, rich=True):
            trace = presolve(problem)
            if trace.inner is None:
                continue
            for _ in range(3):
                point = [Frac(chance.randint(-3, 3), chance.choice((1, 1, 2))) for _ in range(problem.n)]
                self.assertEqual(kinds_in(self.both(trace.point_in, point)), {Frac})
                self.assertEqual(kinds_in(self.both(trace.point_back, point[:trace.inner.n])), {Frac})
        for low, high in ((Frac(0), Frac(5)), (Frac(-7, 2), Frac(4)), (Frac(2), Frac(9, 4))):
            pieces = self.both(lambda *ends: sweep(square(), "r", *ends), low, high)
            self.assertEqual(kinds_in(pieces), {Frac})
        for right in (Frac(3), Frac(5, 2)):
            self.assertEqual(kinds_in(self.both(self.moved, right)), {Frac})
        for point in ([Frac(1), Frac(1)], [Frac(5, 2), Frac(1)]):
            made = self.both(lambda numbers: settled(square(), Answer.told([2], numbers, ("floors", ()))), point)
            self.assertEqual(kinds_in([made.totals, made.point]), {Frac})
            self.both(lambda numbers: report(square(), Answer.told([2], numbers, ("floors", ()))), point)

    def moved(self, right):
        session = Session(square())
        session["r"] = right
        session.move_coefficient("s", "x", right)
        session.move_ends("x", 0, right)
        answer = session.solve()
        return [answer.totals, answer.point, [row.right for row in session.problem]]

    def test_papers_with_integers(self):
        """Numbers that were copied from a passed paper are Fracs in the result."""
        problem = nested(13, 1, rich=True)[0]
        trace = presolve(problem)
        answer = solve(trace.inner, cuts=2)
        other = Answer(answer.kind, plain(answer.totals), plain(answer.point), answer.at, answer.ray, plain(answer.paper))
        self.assertEqual(seen(trace.back(other)), seen(trace.back(answer)))

    def test_kinds_of_results(self):
        for function, *values in calls():
            found = function(*values)
            if function in (bar, heights):
                self.assertEqual(kinds_in(found), {int})
            if function in (by_points, right_range, row_prices, aim_range, sweep):
                self.assertEqual(kinds_in(found) | {Frac}, {Frac})
            if found.__class__ is Answer:
                self.assertEqual(kinds_in([found.totals, found.point, found.ray]) | {Frac}, {Frac})
            if found.__class__ is Web:
                self.assertEqual(kinds_in([found.places, found.edges, found.supplies]), {int})


if __name__ == "__main__":
    unittest.main()
