"""Points 88 to 90 and 93: the desk and its commands."""

import copy
import random
import unittest

from bestpapers.answers import Answer
from bestpapers.changes import with_aims, with_coefficient, with_ends, with_right, without_row
from bestpapers.desks import Desk
from bestpapers.errors import (
    BadCount, BadName, BadPull, Crossed, NoAim, NoEnd, NoName, NotWhole, SameName, TooWide, Unfit,
)
from bestpapers.fracs import Frac
from bestpapers.judges import judge
from bestpapers.reading import read_problem
from bestpapers.refusals import BadCommand, NoAnswer, NothingToRedo, NothingToUndo
from bestpapers.solving import solve
from bestpapers.writing import problem_text
from tests.helpers import fault, picture
from tests.test_solving import claim

TEXT = "var x 0 4 whole\nvar y 0 4 up\nvar z - 3\nrow r 2*x + 2*y <= 5\nrow s 1*z >= 1/2\nmax 1*x + 1*y + -1"


def made(text=TEXT):
    """A desk on which the commands of a text were done."""
    desk = Desk()
    replies = desk.run(text)
    if "refused" in replies:
        raise ValueError(repr(replies))
    return desk


def state(desk):
    """What a desk has: problem, kept papers, and the last answer."""
    problem = None if fault(desk.present) else picture(desk.present())
    papers = [(name, desk.kept_paper(name)) for name in desk.kept]
    return problem, papers, None if desk.answer is None else vars(desk.answer)


def deep_state(desk):
    """Also what undo and redo would make, found out on a copy."""
    found = [state(desk)]
    desk, many = copy.deepcopy(desk), 0
    while not fault(desk.do, "undo"):
        many += 1
        found.append(state(desk))
    for _ in range(many):
        desk.do("redo")
    while not fault(desk.do, "redo"):
        found.append(state(desk))
    return many, found


class Desks(unittest.TestCase):
    def check_refused(self, desk, line, kind, **attributes):
        """A line that raises an error changes nothing but the journal."""
        before, journal = deep_state(desk), desk.journal
        self.assertEqual(fault(desk.do, line), (kind, attributes))
        self.assertEqual(desk.journal, journal + ((line, "refused"),))
        self.assertEqual(deep_state(desk), before)

    def bad(self, desk, *lines):
        for line in lines:
            self.check_refused(desk, line, BadCommand, text=line)

    def check_done(self, desk, line, expected):
        answer, journal = desk.answer, desk.journal
        self.assertEqual(desk.do(line), "ok")
        self.assertEqual(picture(desk.present()), picture(expected))
        self.assertIs(desk.answer, answer)
        self.assertEqual(desk.journal, journal + ((line, "ok"),))


class NoCommands(Desks):
    def test_words(self):
        for desk in (Desk(), made()):
            self.bad(desk, "", " ", "x", "Solve", "solve ", " solve", "solve  1", "solve 5", "solve -1", "solve 01", "solve 1 1", "solve x",
                     "keep", "keep a b", "worth", "worth a b", "judge ", "judge x", "show ", "show x", "undo ", "undo 1", "redo 1", " redo",
                     "aimless ", "aimless x", "drop", "drop a b", "var", "row", "min", "max", "right", "coef", "ends", "whole x",
                     "solve\n", "\n", "undo\nredo", "drop r\n", "drop\nr", "keep a\n")

    def test_forms(self):
        for desk in (Desk(), made()):
            self.bad(desk, "var u 0", "var u 0 1 2", "var u 0 1 whole whole", "var u 0 1 up whole", "var u 0 1 up down", "var u 0 1 left",
                     "var u 0 x", "var u 2/4 1", "var u 0 1 ", "var  u 0 1", "var u +1 2", "var u 0 1e", "var u 0 --",
                     "row q 0 <= ", "row q 0 <= 2/4", "row q 0 < 1", "row q 0 1 <=", "row q <= 1", "row q 0 <=", "row q  <= 1", "row q 0 <= 1 ",
                     "row q 0 + 0 <= 1", "row q 1 <= 1", "min", "min ", "min 1*", "min 0 + 0", "min 1 + 1", "max +", "max 0 +", "max 2/4",
                     "right r", "right r 1 2", "right r x", "right r 01", "right r -", "coef r x", "coef r x -", "coef r x 1/0", "coef r x 1 ",
                     "ends x 0", "ends x 0 1 2", "ends x 0 ", "ends x - +", "ends x 0 1 whole")

    def test_terms(self):
        for desk in (Desk(), made()):
            self.bad(desk, "row q 1*x + 2*x <= 1", "row q 1*u <= 1", "row q 1*r <= 1", "row q 1*x + 1 <= 1", "row q 1* x <= 1", "min 1*x + 2*x",
                     "min 1*u", "max 1*x + 1*u", "min 2 + 1*x", "row q 1*x 1*y <= 1", "row q 1*x +1*y <= 1", "row q 0*x + 0*x <= 1", "min *x")
        self.bad(Desk(), "row q 1*x <= 1", "min 1*x", "max 0*x + 1")

    def test_a_term_is_looked_at_before_a_name(self):
        self.bad(made(), "row x 1*u <= 1", "row  1*u <= 1", "right q 2/4", "coef q q 2/4", "ends q 2/4 1", "var x 2/4 1")


class Edits(Desks):
    def test_variables(self):
        desk = made()
        text = TEXT.split("\n")
        for line in ("var u 0 3", "var v -1/2 7 down", "var w - 0 up", "var a1 2 2 whole up"):
            text.insert(len([row for row in text if row.startswith("var")]), line)
            self.check_done(desk, line, read_problem("\n".join(text)))
        self.assertEqual([aim.coefficients[3:] for aim in desk.present().aims], [(0,) * 4])

    def test_errors_of_variables(self):
        for line, kind, attributes in (
            ("var  0 1", BadName, {"name": ""}), ("var X 0 1", BadName, {"name": "X"}), ("var whole - -", BadName, {"name": "whole"}),
            ("var u - -", NoEnd, {"name": "u"}), ("var u 2 1 whole up", Crossed, {"name": "u"}), ("var u 0 - whole", NotWhole, {"name": "u"}),
            ("var u 1/2 1 whole", NotWhole, {"name": "u"}), ("var u 0 - up", BadPull, {"name": "u"}), ("var u - 0 down", BadPull, {"name": "u"}),
        ):
            for desk in (Desk(), made()):
                self.check_refused(desk, line, kind, **attributes)
        for line, kind, attributes in (
            ("var x 0 1", SameName, {"name": "x"}), ("var r 0 1", SameName, {"name": "r"}), ("var x 0 99 whole", SameName, {"name": "x"}),
            ("var u 0 37 whole", TooWide, {"width": 41, "many": 190}), ("var x 2 1", Crossed, {"name": "x"}), ("var r 0 37 whole", TooWide, {"width": 41, "many": 190}),
        ):
            self.check_refused(made(), line, kind, **attributes)

    def test_too_many_variables(self):
        desk = made("\n".join(f"var x{at} 0 1" for at in range(16)))
        for line in ("var x0 0 1", "var u 0 1", "var X - -", "var u 2 1", "var u 0 99 whole"):
            self.check_refused(desk, line, BadCount, what="variables", many=17)
        self.bad(desk, "var u 0")

    def test_rows_and_aims(self):
        desk = made()
        lines = TEXT.split("\n")
        for at, line in ((5, "row q 1/2*y + -1*x = -3"), (6, "row w 0 >= -1"), (8, "min 0"), (9, "max 0*x + 5")):
            lines.insert(at, line)
            self.check_done(desk, line, read_problem("\n".join(lines)))

    def test_errors_of_rows_and_aims(self):
        for line, kind, attributes in (
            ("row  0 <= 1", BadName, {"name": ""}), ("row Q 0 <= 1", BadName, {"name": "Q"}), ("row x 0 <= 1", SameName, {"name": "x"}),
            ("row r 1*x <= 1", SameName, {"name": "r"}),
        ):
            self.check_refused(made(), line, kind, **attributes)
        desk = made(TEXT + "\nmin 0\nmin 0")
        self.check_refused(desk, "max 1*x", BadCount, what="aims", many=4)
        desk.run("\n".join(f"row q{at} 0 <= 1" for at in range(14)))
        self.check_refused(desk, "row r 1*x <= 1", BadCount, what="rows", many=17)
        self.check_refused(desk, "row R 1*x <= 1", BadName, name="R")
        desk.do("aimless")
        self.assertEqual(desk.do("max 1*x"), "ok")

    def test_drop(self):
        desk = made()
        problem = desk.present()
        self.check_done(desk, "drop r", without_row(problem, "r"))
        self.check_refused(desk, "drop r", NoName, name="r")
        for name in ("x", "q", "", "R"):
            self.check_refused(desk, "drop " + name, NoName, name=name)
        self.check_done(desk, "drop s", without_row(without_row(problem, "r"), "s"))
        self.assertEqual(desk.present().rows, ())

    def test_aimless(self):
        desk = made()
        expected = with_aims(desk.present(), ())
        self.check_done(desk, "aimless", expected)
        self.check_done(desk, "aimless", expected)

    def test_right(self):
        desk = made()
        self.check_done(desk, "right s -7/3", with_right(desk.present(), "s", Frac(-7, 3)))
        for name in ("x", "q", ""):
            self.check_refused(desk, f"right {name} 1", NoName, name=name)

    def test_coefficients(self):
        desk = made()
        self.check_done(desk, "coef r y 1/3", with_coefficient(desk.present(), "r", "y", Frac(1, 3)))
        self.check_done(desk, "coef r x 0", with_coefficient(desk.present(), "r", "x", 0))
        for words, name in (("q u", "q"), ("x x", "x"), ("r r", "r"), ("r q", "q"), (" x", ""), ("r ", "")):
            self.check_refused(desk, f"coef {words} 1", NoName, name=name)

    def test_ends(self):
        desk = made()
        self.check_done(desk, "ends y -1 -", with_ends(desk.present(), "y", -1, None))
        self.assertEqual(desk.present()["y"].pull, "down")
        self.check_done(desk, "ends z - 5/2", with_ends(desk.present(), "z", None, Frac(5, 2)))
        for name in ("r", "q", ""):
            self.check_refused(desk, f"ends {name} 0 1", NoName, name=name)
        for line, kind, attributes in (
            ("ends y - -", NoEnd, {"name": "y"}), ("ends y 3 2", Crossed, {"name": "y"}), ("ends x 0 -", NotWhole, {"name": "x"}),
            ("ends x 0 1/2", NotWhole, {"name": "x"}), ("ends x 0 41", TooWide, {"width": 41, "many": 42}),
        ):
            self.check_refused(desk, line, kind, **attributes)

    def test_before_the_first_variable(self):
        desk = Desk()
        for line, kind, attributes in (
            ("row r 0 <= 1", BadCount, {"what": "coefficients", "many": 0}), ("row R 0 <= 1", BadName, {"name": "R"}),
            ("row  0 <= 1", BadName, {"name": ""}), ("min 0", BadCount, {"what": "coefficients", "many": 0}),
            ("max 7", BadCount, {"what": "coefficients", "many": 0}), ("drop r", NoName, {"name": "r"}), ("drop ", NoName, {"name": ""}),
            ("right r 1", NoName, {"name": "r"}), ("coef r x 1", NoName, {"name": "r"}), ("ends x 0 1", NoName, {"name": "x"}),
        ):
            self.check_refused(desk, line, kind, **attributes)
        self.assertEqual((desk.do("aimless"), fault(desk.present)), ("ok", (BadCount, {"what": "variables", "many": 0})))
        self.assertEqual((desk.do("undo"), desk.do("redo")), ("ok", "ok"))
        self.check_refused(desk, "redo", NothingToRedo)

    def test_behind_the_first_variable_is_undone(self):
        desk = made("var x 0 1\nrow r 1*x <= 1\nundo\nundo")
        self.check_refused(desk, "row r 0 <= 1", BadCount, what="coefficients", many=0)
        self.bad(desk, "row r 1*x <= 1")
        self.check_refused(desk, "solve", BadCount, what="variables", many=0)


class Answers(Desks):
    def check_solve(self, desk, line, reply, cuts=0):
        before = picture(desk.present())
        self.assertEqual(desk.do(line), reply)
        self.assertEqual(picture(desk.present()), before)
        self.assertIsInstance(desk.answer, Answer)
        self.assertEqual(vars(desk.answer), vars(solve(desk.present(), cuts=cuts)))
        self.assertTrue(judge(desk.present(), desk.answer))
        self.assertEqual(desk.journal[-1], (line, reply))

    def test_told(self):
        desk = made("var x 0 4 whole\nvar y 0 4\nrow r 2*x + 2*y <= 5\nmax 1*x + 1*y\nmin 3*y + 1")
        for cuts in range(5):
            self.check_solve(desk, f"solve {cuts}", "told 5/2 5/2 at 2 1/2", cuts)
        self.check_solve(desk, "solve", "told 5/2 5/2 at 2 1/2")
        self.check_solve(made("var x -3/2 4"), "solve", "told at -3/2")

    def test_empty(self):
        desk = made("var x 0 4 whole\nrow r 2*x = 5\nmin 1*x")
        self.check_solve(desk, "solve", "empty")
        self.check_solve(desk, "solve 4", "empty", 4)

    def test_endless(self):
        desk = made("var x 0 -\nvar y 0 4\nmax 1*y + 1\nmax 1*x")
        self.check_solve(desk, "solve", "endless 1 5 at 0 4")
        desk = made("var x 0 -\nvar y 0 -\nrow r 1*x + -1*y <= 1\nmax 1*x")
        self.check_solve(desk, "solve 3", "endless 0 at 0 0", 3)

    def test_without_a_variable(self):
        for line in ("solve", "solve 0", "solve 4"):
            self.check_refused(Desk(), line, BadCount, what="variables", many=0)

    def test_keep(self):
        desk = made()
        for name in ("", "X", "var", "a-b", "abcdefghijklm"):
            self.check_refused(desk, "keep " + name, BadName, name=name)
        self.check_refused(desk, "keep p", NoAnswer)
        self.assertEqual(desk.kept, ())
        desk.do("solve")
        first = desk.answer
        self.assertEqual((desk.do("keep p"), desk.kept, desk.kept_paper("p")), ("ok", ("p",), first.paper))
        self.check_refused(desk, "keep P", BadName, name="P")
        desk.run("aimless\nsolve\nkeep a1\nkeep p")
        self.assertEqual((desk.kept, desk.kept_paper("p"), desk.kept_paper("a1")), (("a1", "p"), desk.answer.paper, desk.answer.paper))
        self.assertNotEqual(desk.kept_paper("p"), first.paper)

    def test_names_of_kept_papers(self):
        desk = made(TEXT + "\nsolve\nkeep zz\nkeep x\nkeep b_2\nkeep b1\nkeep b10")
        self.assertEqual(desk.kept, ("b1", "b10", "b_2", "x", "zz"))
        for name in ("q", "", "b"):
            self.assertEqual(fault(desk.kept_paper, name), (NoName, {"name": name}))

    def test_worth(self):
        desk = made("var x 0 3\nvar y 0 3\nrow r 1*x + 1*y >= 2\nmin 1*x + 1*y\nsolve\nkeep p")
        self.assertEqual([desk.do("worth p"), desk.do("right r 5/2"), desk.do("worth p")], ["2", "ok", "5/2"])
        desk.run("ends x -1 -\naimless\nmax 1*x")
        self.assertEqual(desk.do("worth p"), "nothing")
        self.check_refused(desk, "worth q", NoName, name="q")
        self.check_refused(desk, "worth ", NoName, name="")
        desk.run("drop r")
        self.check_refused(desk, "worth p", Unfit)
        desk.do("aimless")
        self.check_refused(desk, "worth p", NoAim, aim=0)
        desk = made("var x 0 1\nrow r 1*x >= 2\nmax 1*x\nsolve\nkeep e")
        self.assertEqual([desk.do("worth e"), desk.do("right r 1"), desk.do("worth e")], ["empty", "ok", "nothing"])

    def test_worth_without_a_variable(self):
        desk = made("var x 0 1\nsolve\nundo\nkeep p")
        self.check_refused(desk, "worth p", BadCount, what="variables", many=0)
        self.check_refused(desk, "worth q", NoName, name="q")

    def test_judge(self):
        desk = made(TEXT)
        self.check_refused(desk, "judge", NoAnswer)
        self.check_refused(Desk(), "judge", NoAnswer)
        self.assertEqual([desk.do(line) for line in ("solve", "judge", "right r 4", "judge", "undo", "judge", "var u 0 1", "judge")][1::2],
                         ["yes", "no", "yes", "no"])
        desk = made("var x 0 1\nsolve\nundo")
        self.check_refused(desk, "judge", BadCount, what="variables", many=0)
        desk = made("var x 0 -\nmax 1*x\nsolve")
        self.assertEqual([desk.do(line) for line in ("judge", "aimless", "judge", "max 1*x", "judge")], ["yes", "ok", "no", "ok", "yes"])

    def test_show(self):
        self.assertEqual(Desk().do("show"), "")
        desk = made()
        self.assertEqual(desk.do("show"), problem_text(desk.present()))
        self.assertEqual(desk.do("show"), TEXT)
        self.assertEqual(desk.run("aimless\ndrop s\ndrop r\nshow")[3], "\n".join(TEXT.split("\n")[:3]))

    def test_other_commands_do_not_touch_the_last_answer(self):
        desk = made(TEXT + "\nsolve")
        answer = desk.answer
        desk.run("keep p\nworth p\njudge\nshow\nundo\nredo\ndrop r\nundo\nx\nright q 1")
        self.assertIs(desk.answer, answer)


class UndoAndRedo(Desks):
    CHANGES = ("var u 0 1", "row q 1*x <= 3", "min 1*x", "max 2*y", "drop r", "aimless", "right s 1", "coef r z 5", "ends y 0 2", "keep p",
               "aimless", "right s 1", "ends y 0 2", "keep p")

    def test_every_change(self):
        for line in self.CHANGES:
            desk = made(TEXT + "\nsolve")
            before = state(desk)
            self.assertEqual(desk.do(line), "ok")
            after = state(desk)
            for _ in range(2):
                self.assertEqual((desk.do("undo"), state(desk)), ("ok", before))
                self.assertEqual((desk.do("redo"), state(desk)), ("ok", after))
            self.check_refused(desk, "redo", NothingToRedo)

    def test_several_in_a_row(self):
        desk = made(TEXT + "\nsolve")
        states = [state(desk)]
        for line in self.CHANGES:
            if desk.run(line) == ["ok"]:
                states.append(state(desk))
        self.assertGreater(len(states), 10)
        for expected in states[-2::-1]:
            desk.do("undo")
            self.assertEqual(state(desk), expected)
        for _ in range(6):
            desk.do("undo")
        self.check_refused(desk, "undo", NothingToUndo)
        self.assertEqual(fault(desk.present), (BadCount, {"what": "variables", "many": 0}))
        for _ in range(6):
            desk.do("redo")
        for expected in states[1:]:
            desk.do("redo")
            self.assertEqual(state(desk), expected)
        self.check_refused(desk, "redo", NothingToRedo)

    def test_changes_that_change_nothing(self):
        desk = made("var x 0 1")
        desk.run("aimless\nends x 0 1")
        self.assertEqual(desk.run("undo\nundo\nundo\nundo"), ["ok", "ok", "ok", "refused"])
        self.assertEqual(desk.run("redo\nredo\nredo\nredo"), ["ok", "ok", "ok", "refused"])

    def test_errors(self):
        self.check_refused(Desk(), "undo", NothingToUndo)
        self.check_refused(Desk(), "redo", NothingToRedo)
        self.check_refused(made(), "redo", NothingToRedo)

    def test_a_new_change_behind_an_undo(self):
        for line in ("right r 7", "aimless", "keep p", "var u 0 1"):
            desk = made(TEXT + "\nsolve\nundo\nundo")
            desk.do(line)
            self.check_refused(desk, "redo", NothingToRedo)
            desk.do("undo")
            self.assertEqual(picture(desk.present()), picture(read_problem("\n".join(TEXT.split("\n")[:4]))))

    def test_what_is_no_change(self):
        desk = made(TEXT + "\nsolve\nkeep p\nundo\nundo")
        desk.run("solve\nworth p\njudge\nshow\nx\ndrop q\nright r x\nrow x 0 <= 1")
        self.assertEqual(desk.run("redo\nredo\nredo"), ["ok", "ok", "refused"])
        self.assertEqual(desk.kept, ("p",))

    def test_the_last_answer_stays(self):
        desk = made(TEXT + "\nsolve")
        answer = desk.answer
        desk.run("undo\nundo\nredo")
        self.assertIs(desk.answer, answer)
        desk.do("solve")
        other = desk.answer
        desk.do("undo")
        self.assertIs(desk.answer, other)

    def test_the_paper_that_was_kept_then(self):
        desk = made(TEXT + "\nsolve\nkeep p")
        first = desk.kept_paper("p")
        desk.run("aimless\nsolve\nkeep p")
        second = desk.kept_paper("p")
        self.assertNotEqual(first, second)
        desk.do("undo")
        self.assertEqual(desk.kept_paper("p"), first)
        self.assertEqual(desk.run("solve\nundo\nundo\nsolve")[1:3], ["ok", "ok"])
        self.assertEqual(desk.kept, ())
        desk.do("redo")
        self.assertEqual(desk.kept_paper("p"), first)
        desk.run("redo\nredo")
        self.assertEqual(desk.kept_paper("p"), second)

    def test_the_document(self):
        desk = Desk()
        replies = desk.run("var x 0 4 whole\nvar y 0 4\nrow r 2*x + 2*y <= 5\nmax 1*x + 1*y\nsolve\nundo\nsolve")
        self.assertEqual(replies, ["ok", "ok", "ok", "ok", "told 5/2 at 0 5/2", "ok", "told at 0 0"])


class Journals(Desks):
    LINES = ("", "var x 0 4 whole", "var x 0 4", "solve", " solve", "keep p", "undo", "show", "nothing", "redo", "worth p", "drop r")

    def test_refused_lines_and_no_commands(self):
        desk = Desk()
        self.assertEqual((desk.journal, list(desk)), ((), []))
        replies = []
        for line in self.LINES:
            try:
                replies.append(desk.do(line))
            except ValueError:
                replies.append("refused")
        self.assertEqual(desk.journal, tuple(zip(self.LINES, replies)))
        self.assertEqual({entry.__class__ for entry in desk.journal}, {tuple})
        self.assertEqual(replies, ["refused", "ok", "refused", "told at 0", "refused", "ok", "ok", "var x 0 4 whole", "refused", "ok", "refused", "refused"])

    def test_iteration(self):
        desk = Desk()
        desk.run("\n".join(self.LINES))
        self.assertEqual([line for line in desk], list(self.LINES))
        self.assertEqual(tuple(desk), self.LINES)
        self.assertEqual(len(list(desk)), len(desk.journal))
        self.assertIn("keep p", list(desk))

    def test_lines_with_line_feeds(self):
        desk = Desk()
        self.assertEqual(fault(desk.do, "var x 0 1\nsolve"), (BadCommand, {"text": "var x 0 1\nsolve"}))
        self.assertEqual(desk.journal, (("var x 0 1\nsolve", "refused"),))
        self.assertEqual(list(desk), ["var x 0 1\nsolve"])

    def test_what_is_returned_belongs_to_the_caller(self):
        desk = made(TEXT + "\nsolve\nkeep p")
        before = deep_state(desk)
        desk.run("show").append("x")
        list(desk).clear()
        self.assertEqual([desk.journal.__class__, desk.kept.__class__], [tuple, tuple])
        self.assertEqual(deep_state(desk), before)

    def test_present_and_answer(self):
        desk = Desk()
        self.assertEqual(fault(desk.present), (BadCount, {"what": "variables", "many": 0}))
        self.assertIsNone(desk.answer)
        desk = made(TEXT + "\nsolve 2")
        self.assertEqual(problem_text(desk.present()), TEXT)
        self.assertEqual(claim(desk.answer), claim(solve(read_problem(TEXT))))

    def test_chance(self):
        """Desks behind many commands: what undo and redo make is what was there."""
        chance = random.Random(93)
        for _ in range(25):
            desk, past, future = Desk(), [], []
            for _ in range(40):
                line = self.some_line(chance)
                before = state(desk)[:2]
                reply = desk.run(line)[0]
                if reply == "refused":
                    self.assertEqual(state(desk)[:2], before)
                elif line == "undo":
                    self.assertEqual(state(desk)[:2], past[-1])
                    future.append(before)
                    past.pop()
                elif line == "redo":
                    self.assertEqual(state(desk)[:2], future[-1])
                    past.append(before)
                    future.pop()
                elif line.split(" ")[0] not in ("solve", "worth", "judge", "show"):
                    past.append(before)
                    future = []

    def some_line(self, chance):
        name, row = chance.choice("xyz"), chance.choice("rst")
        number = chance.choice(("0", "1", "-1", "3/2", "2"))
        return chance.choice((
            f"var {name} 0 {chance.choice(('1', '2', '-'))}", f"var {name} -1 2 whole", f"row {row} {number}*{name} <= 2", f"min {number}*{name}",
            f"max 1*{name} + {number}", f"drop {row}", "aimless", f"right {row} {number}", f"coef {row} {name} {number}", f"ends {name} {number} 4",
            "solve", "solve 2", f"keep {name}", f"worth {name}", "judge", "show", "undo", "undo", "undo", "redo", "redo", "what",
        ))


if __name__ == "__main__":
    unittest.main()
