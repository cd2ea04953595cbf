"""Points 72 and 73: problems that change, and starts from where the last run ended."""

import random
import unittest

from bestpapers.changes import (
    with_aims, with_coefficient, with_ends, with_right, with_rows, with_whole, without_row,
)
from bestpapers.dual import dual_run
from bestpapers.errors import BadCount, Crossed, NoName, NotWhole, SameName, TooWide, WrongWidth
from bestpapers.fracs import Frac
from bestpapers.heldsets import repaired
from bestpapers.judges import judge
from bestpapers.nodes import Node
from bestpapers.paperforms import paper_counts, paper_nodes
from bestpapers.problems import Problem
from bestpapers.rows import Aim, Row
from bestpapers.sessions import Session
from bestpapers.solving import solve
from bestpapers.variables import Variable
from tests.algebra import some_mixed, some_number, some_row
from tests.helpers import HUGE, fault, picture
from tests.test_solving import claim


def sample():
    return Problem([Variable("x", 0, 5, whole=True), Variable("y", 0, 5)],
                   [Row("r", [2, 2], "<=", 7), Row("s", [1, -1], ">=", -2), Row("t", [1, 2], "<=", 6)], [Aim("max", [1, 1])])


class Sessions(unittest.TestCase):
    def check(self, session):
        """Solve, and look at all that holds for every solve of a session."""
        problem, chosen = session.problem, session.chosen
        before = picture(problem)
        node = Node(problem)
        expected = dual_run(node, repaired(node, () if chosen is None else chosen))
        answer = session.solve()
        self.assertIs(session.problem, problem)
        self.assertEqual(picture(problem), before)
        self.assertEqual(session.chosen, expected.table.chosen)
        self.assertEqual(session.chosen.__class__, tuple)
        self.assertEqual(session.exchanges, len(expected.path) - 1)
        self.assertEqual(session.exchanges.__class__, int)
        self.assertEqual(claim(answer), claim(solve(problem)))
        self.assertIs(judge(problem, answer), True)
        self.check_form(problem, answer.paper, session.cuts)
        return answer

    def check_form(self, problem, paper, cuts):
        counts = paper_counts(paper)
        others = sum(counts.values()) - counts["derive"]
        if not any(variable.whole for variable in problem.variables):
            self.assertIn(paper[0], ("empty", "floors"))
        self.assertLessEqual(counts["derive"], cuts)
        self.assertLessEqual(others, 2 * problem.assignments - 1)
        self.assertNotIn("derive", [word for _, word in paper_nodes(paper)][counts["derive"]:])
        for _ in range(counts["derive"]):
            self.assertEqual(paper[3][0], "split")
            paper = paper[4]

    def check_fault(self, session, expected, call, *values):
        """A change that raises an error changes nothing."""
        kept = (session.problem, session.chosen, session.exchanges, session.cuts)
        self.assertEqual(fault(call, *values), expected)
        self.assertEqual((session.problem, session.chosen, session.exchanges, session.cuts), kept)


class Changes(Sessions):
    def check_change(self, session, expected, call, *values):
        chosen, exchanges = session.chosen, session.exchanges
        self.assertIsNone(call(*values))
        self.assertEqual(picture(session.problem), picture(expected))
        self.assertEqual(session.exchanges, exchanges)
        self.check(session)
        return chosen

    def test_each_method(self):
        session = Session(sample())
        problem = sample()
        row, other = Row("u", [1, 0], ">=", 1), Row("v", [0, 1], "<=", Frac(5, 2))
        for expected, call, values in (
            (with_rows(problem, row, other), session.put_rows, (row, other)),
            (with_rows(problem), session.put_rows, ()),
            (without_row(problem, "s"), session.drop_row, ("s",)),
            (with_right(problem, "t", Frac(9, 2)), session.move_right, ("t", Frac(9, 2))),
            (with_coefficient(problem, "r", "y", 0), session.move_coefficient, ("r", "y", 0)),
            (with_ends(problem, "y", None, 3), session.move_ends, ("y", None, 3)),
            (with_whole(problem, "x", False), session.make_whole, ("x", False)),
            (with_whole(problem, "y", True), session.make_whole, ("y", True)),
            (with_aims(problem, [Aim("min", [1, 2]), Aim("max", [1, 0])]), session.turn_aims, ([Aim("min", [1, 2]), Aim("max", [1, 0])],)),
            (with_aims(problem, ()), session.turn_aims, ((),)),
        ):
            session.problem = problem
            self.check_change(session, expected, call, *values)

    def test_items(self):
        session = Session(sample())
        session["r"] = 5
        self.assertEqual(picture(session.problem), picture(with_right(sample(), "r", 5)))
        self.assertEqual(claim(self.check(session)), claim(solve(with_right(sample(), "r", 5))))
        session["r"] = Frac(1, 2)
        self.assertEqual(session.problem["r"].right, Frac(1, 2))

    def test_errors_change_nothing(self):
        session = Session(sample())
        for solved in range(2):
            put = session.__setitem__
            for expected, call, values in (
                ((SameName, {"name": "y"}), session.put_rows, (Row("y", [1, 1], "<=", 1),)),
                ((SameName, {"name": "r"}), session.put_rows, (Row("u", [1, 1], "<=", 1), Row("r", [1, 1], "<=", 1))),
                ((WrongWidth, {"have": 1, "need": 2}), session.put_rows, (Row("u", [1], "<=", 1),)),
                ((BadCount, {"what": "rows", "many": 17}), session.put_rows, [Row(f"u{at}", [1, 1], "<=", 1) for at in range(14)]),
                ((NoName, {"name": "q"}), session.drop_row, ("q",)),
                ((NoName, {"name": "x"}), session.drop_row, ("x",)),
                ((NoName, {"name": "y"}), session.move_right, ("y", 3)),
                ((NoName, {"name": "y"}), put, ("y", 3)),
                ((NoName, {"name": "x"}), session.move_coefficient, ("x", "q", 3)),
                ((NoName, {"name": "r"}), session.move_coefficient, ("r", "r", 3)),
                ((NoName, {"name": "r"}), session.move_ends, ("r", 0, 3)),
                ((Crossed, {"name": "y"}), session.move_ends, ("y", 4, 3)),
                ((NotWhole, {"name": "x"}), session.move_ends, ("x", 0, None)),
                ((TooWide, {"width": 41, "many": 42}), session.move_ends, ("x", 0, 41)),
                ((NoName, {"name": "s"}), session.make_whole, ("s", True)),
                ((BadCount, {"what": "aims", "many": 4}), session.turn_aims, ([Aim("min", [1, 1])] * 4,)),
                ((WrongWidth, {"have": 3, "need": 2}), session.turn_aims, ([Aim("min", [1, 1, 1])],)),
            ):
                self.check_fault(session, expected, call, *values)
            session.solve()

    def test_lists_that_change_later(self):
        aims = [Aim("min", [1, 2])]
        session = Session(sample())
        session.turn_aims(aims)
        aims.append(Aim("max", [1, 1]))
        self.assertEqual(len(session.problem.aims), 1)


class Cuts(Sessions):
    def test_read_and_assigned(self):
        session = Session(sample())
        self.assertEqual((session.cuts, session.cuts.__class__), (0, int))
        for cuts in (3, 0, 4, 1, 2):
            session.cuts = cuts
            self.assertEqual(session.cuts, cuts)
            self.assertIsNone(session.use_cuts(4 - cuts))
            self.assertEqual(session.cuts, 4 - cuts)

    def test_bad_counts(self):
        session = Session(sample())
        session.cuts = 2
        for cuts in (-HUGE, -1, 5, 6, HUGE):
            expected = (BadCount, {"what": "cuts", "many": cuts})
            self.check_fault(session, expected, session.use_cuts, cuts)
            self.check_fault(session, expected, setattr, session, "cuts", cuts)
        self.assertEqual(session.cuts, 2)

    def test_the_form_of_the_paper(self):
        problem = Problem([Variable("x", 0, 9, whole=True), Variable("y", 0, 9, whole=True)],
                          [Row("r", [3, 5], "=", 19), Row("s", [6, 7], ">=", 31)], [Aim("max", [2, 3])])
        session = Session(problem)
        used = []
        for cuts in (0, 1, 2, 3, 4, 0):
            session.cuts = cuts
            used.append(paper_counts(self.check(session).paper)["derive"])
        self.assertEqual((used[0], used[1], used[5]), (0, 1, 0))
        self.assertGreater(used[4], 1)


class Starts(Sessions):
    def test_before_the_first_solve(self):
        session = Session(sample())
        self.assertEqual((session.chosen, session.exchanges), (None, None))
        session["r"] = 5
        session.drop_row("s")
        session.put_rows(Row("u", [1, 1], ">=", 1))
        self.assertEqual((session.chosen, session.exchanges), (None, None))
        self.check(session)

    def test_the_first_solve(self):
        session = Session(sample())
        self.check(session)
        run = dual_run(Node(sample()))
        self.assertEqual((session.chosen, session.exchanges), (run.table.chosen, len(run.path) - 1))
        self.assertGreater(session.exchanges, 0)

    def test_nothing_changed(self):
        for problem in (sample(), Problem([Variable("x", 0, 1)], [Row("r", [1], ">=", 2)]),
                        Problem([Variable("x"), Variable("y")], [Row("r", [1, -1], "<=", 1)], [Aim("max", [1, 0])])):
            session = Session(problem)
            first = self.check(session)
            chosen = session.chosen
            for cuts in (0, 0, 3, 0):
                session.cuts = cuts
                self.assertEqual(claim(self.check(session)), claim(first))
                self.assertEqual((session.chosen, session.exchanges), (chosen, 0))

    def test_exchanges_stay_until_the_next_solve(self):
        session = Session(sample())
        self.check(session)
        exchanges = session.exchanges
        session["r"] = 3
        session.drop_row("t")
        session.move_ends("y", 1, 2)
        self.assertEqual(session.exchanges, exchanges)

    def solved(self, aims=(Aim("max", [1, 3]),)):
        """A session that holds the rows b and d, with the items 3 and 5."""
        problem = Problem([Variable("x", 0, 9), Variable("y", 0, 9)],
                          [Row("a", [1, 1], "<=", 20), Row("b", [1, 1], "<=", 8), Row("c", [1, 0], "<=", 20), Row("d", [-1, 2], "<=", 7),
                           Row("e", [0, 1], "<=", 30)], aims)
        session = Session(problem)
        self.check(session)
        self.assertEqual(session.chosen, (3, 5))
        return session

    def test_dropped_rows(self):
        for name, chosen in (("a", (2, 4)), ("b", (4,)), ("c", (3, 4)), ("d", (3,)), ("e", (3, 5))):
            session = self.solved()
            session.drop_row(name)
            self.assertEqual(session.chosen, chosen)
            self.check(session)
        session = self.solved()
        for name, chosen in (("b", (4,)), ("a", (3,)), ("d", ())):
            session.drop_row(name)
            self.assertEqual(session.chosen, chosen)
        session.put_rows(Row("b", [1, 1], "<=", 8))
        self.assertEqual(session.chosen, ())
        self.check(session)

    def test_no_other_change_touches_chosen(self):
        session = self.solved()
        session.put_rows(Row("f", [1, 2], "<=", 6))
        session.move_right("b", 3)
        session["d"] = -5
        session.move_coefficient("b", "x", 0)
        session.move_coefficient("d", "x", 0)
        session.move_ends("x", None, 4)
        session.make_whole("y", True)
        session.turn_aims([])
        self.assertEqual(session.chosen, (3, 5))
        # Now the rows b and d are multiples of each other, so the start is another set.
        self.check(session)

    def test_rows_that_became_dependent(self):
        session = self.solved()
        session.move_coefficient("b", "x", 0)
        session.move_coefficient("d", "x", 0)
        node = Node(session.problem)
        self.assertEqual(repaired(node, (3, 5)), (0, 3))
        self.check(session)

    def test_a_warm_start_is_short(self):
        session = self.solved()
        session["b"] = Frac(17, 2)
        self.check(session)
        self.assertEqual((session.chosen, session.exchanges), ((3, 5), 0))

    def test_all_aims_are_in_the_first_run(self):
        problem = Problem([Variable("x"), Variable("y")], [Row("r", [1, -1], "<=", 1)], [Aim("min", [0, 1]), Aim("max", [1, 1])])
        session = Session(problem)
        self.assertEqual(self.check(session).kind, "told")
        session.turn_aims([Aim("min", [0, 0]), Aim("max", [1, 1])])
        self.assertEqual(self.check(session).kind, "endless")

    def test_chains_of_changes(self):
        chance = random.Random(73)
        kinds, held = {}, {}
        for _ in range(80):
            session = Session(some_mixed(chance, 3, 3, whole=chance.choice((0, 0, 4, 9))))
            for _ in range(8):
                self.change(chance, session, held)
                if session.problem.assignments > 40:
                    break
                answer = self.check(session)
                kinds[answer.kind] = kinds.get(answer.kind, 0) + 1
        self.assertGreater(min(kinds.values()), 20, kinds)
        self.assertEqual(len(kinds), 3)
        self.assertGreater(min(held.values()), 10, held)
        self.assertEqual(len(held), 2)

    def change(self, chance, session, held):
        """Make one change; a change that is refused is none."""
        problem = session.problem
        name = chance.choice(problem.variables).name
        row = chance.choice(problem.rows).name if problem.rows else "none"
        if chance.randint(0, 4) == 0 and problem.rows:
            at = problem.n + problem.rows.index(problem[row])
            if session.chosen is not None:
                held[at in session.chosen] = held.get(at in session.chosen, 0) + 1
            expected = None if session.chosen is None else tuple(
                item - (item > at) for item in session.chosen if item != at)
            session.drop_row(row)
            self.assertEqual(session.chosen, expected)
            return
        session.use_cuts(chance.randint(0, 4))
        call, values = chance.choice((
            (session.put_rows, [Row(f"n{chance.randint(0, 99)}", some_row(chance, problem.n), chance.choice(("<=", ">=", "=")), some_number(chance))]),
            (session.move_right, [row, some_number(chance)]),
            (session.__setitem__, [row, some_number(chance)]),
            (session.move_coefficient, [row, name, some_number(chance)]),
            (session.move_ends, [name, chance.choice((None, -1, 0)), chance.choice((1, 2, None))]),
            (session.make_whole, [name, chance.choice((True, False))]),
            (session.turn_aims, [[Aim(chance.choice(("min", "max")), some_row(chance, problem.n)) for _ in range(chance.randint(0, 2))]]),
        ))
        chosen = session.chosen
        fault(call, *values)
        self.assertEqual(session.chosen, chosen)


if __name__ == "__main__":
    unittest.main()
