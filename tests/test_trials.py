"""Points 91 to 93: runs, whole runs, trials and replayed journals."""

import random
import unittest

from bestpapers.desks import Desk
from bestpapers.errors import BestError, NoName
from bestpapers.refusals import BadCommand, NothingToUndo
from bestpapers.trials import Trial, replayed, run_whole, try_out
from tests.helpers import fault
from tests.test_desks import TEXT, Journals, deep_state, made
from tests.test_solving import claim


def full():
    """A desk on which things can be undone and redone, with a kept paper and an answer."""
    return made(TEXT + "\nsolve\nkeep p\nright r 3\nsolve 2\nkeep q\nundo\nundo")


def whole_state(desk):
    return deep_state(desk), desk.journal, list(desk)


class Runs(unittest.TestCase):
    def test_replies(self):
        desk = Desk()
        replies = desk.run("var x 0 1\nnothing\n\nrow r 1*x >= 2\ndrop q\nsolve\nundo\nsolve 7\nsolve 1")
        self.assertEqual(replies, ["ok", "refused", "refused", "ok", "refused", "empty", "ok", "refused", "told at 0"])
        self.assertEqual(replies.__class__, list)
        self.assertEqual([reply for _, reply in desk.journal], replies)

    def test_texts_without_a_command(self):
        for text, many in (("", 1), ("\n", 2), (" \n ", 2)):
            desk = Desk()
            self.assertEqual(desk.run(text), ["refused"] * many)
            self.assertEqual(list(desk), text.split("\n"))


class Whole(unittest.TestCase):
    def test_without_an_error(self):
        for desk in (Desk(), made("var y 0 1")):
            other, _ = replayed(desk.journal)
            text = "var x 0 1\nrow r 1*x >= 1\nsolve\nkeep p\nundo"
            replies = run_whole(desk, text)
            self.assertEqual((replies, replies.__class__), (other.run(text), list))
            self.assertEqual(whole_state(desk), whole_state(other))

    def test_with_an_error(self):
        for text, kind, attributes in (
            ("aimless\nsolve\nkeep z\ndrop q\naimless", NoName, {"name": "q"}), ("nothing", BadCommand, {"text": "nothing"}),
            ("", BadCommand, {"text": ""}), ("redo\nundo\n" + "undo\n" * 20, NothingToUndo, {}), ("solve\nsolve\n", BadCommand, {"text": ""}),
        ):
            desk = full()
            before, answer = whole_state(desk), desk.answer
            self.assertEqual(fault(run_whole, desk, text), (kind, attributes))
            self.assertEqual(whole_state(desk), before)
            self.assertIs(desk.answer, answer)

    def test_behind_an_error(self):
        desk = full()
        fault(run_whole, desk, "right r 1\nundo\nundo\nx")
        self.assertEqual(desk.run("redo\nredo\nredo"), ["ok", "ok", "refused"])
        self.assertEqual(desk.kept, ("p", "q"))


class TryOuts(unittest.TestCase):
    TEXTS = ("aimless\nsolve\nkeep z\nundo\nundo\nundo\nredo", "redo\nredo\nredo\nworth q\njudge", "nothing\n\ndrop q\nsolve 9", "", "show")

    def test_everything_stays(self):
        for text in self.TEXTS:
            for desk in (full(), Desk(), made()):
                before, answer = whole_state(desk), desk.answer
                replies = try_out(desk, text)
                self.assertEqual(whole_state(desk), before)
                self.assertIs(desk.answer, answer)
                self.assertEqual((desk.run(text), replies.__class__), (replies, list))

    def test_again_and_again(self):
        desk = full()
        for text in self.TEXTS * 2:
            self.assertEqual(try_out(desk, text), try_out(desk, text))


class Trials(unittest.TestCase):
    def work(self, desk, error=None):
        with Trial(desk) as inside:
            self.assertIs(inside, desk)
            inside.run("right s 7\nsolve\nkeep z\nundo\nnothing")
            inside.do("keep y")
            if error is not None:
                raise error
        return desk

    def test_without_an_error(self):
        desk, other = full(), full()
        self.work(desk)
        other.run("right s 7\nsolve\nkeep z\nundo\nnothing\nkeep y")
        self.assertEqual(whole_state(desk), whole_state(other))

    def test_errors_of_every_class(self):
        for error in (NoName("x"), BestError(), ValueError("x"), KeyError(3), ZeroDivisionError(), RuntimeError(), KeyboardInterrupt(), SystemExit()):
            desk = full()
            before, answer = whole_state(desk), desk.answer
            with self.assertRaises(error.__class__) as caught:
                self.work(desk, error)
            self.assertIs(caught.exception, error)
            self.assertEqual(whole_state(desk), before)
            self.assertIs(desk.answer, answer)

    def test_an_error_of_a_command(self):
        desk = full()
        before = whole_state(desk)
        with self.assertRaises(NoName):
            with Trial(desk) as inside:
                inside.do("aimless")
                inside.do("drop nothing")
        self.assertEqual(whole_state(desk), before)

    def test_an_error_that_is_caught_inside(self):
        desk = full()
        with Trial(desk) as inside:
            self.assertEqual(fault(inside.do, "drop nothing"), (NoName, {"name": "nothing"}))
        self.assertEqual(desk.journal[-1], ("drop nothing", "refused"))

    def test_the_start_of_the_block(self):
        """What was done between the making of a trial and its block stays."""
        desk = full()
        trial = Trial(desk)
        desk.do("aimless")
        before = whole_state(desk)
        with self.assertRaises(KeyError):
            with trial:
                desk.do("drop s")
                raise KeyError(1)
        self.assertEqual(whole_state(desk), before)

    def test_left_early(self):
        desk = full()

        def work():
            with Trial(desk) as inside:
                return inside.do("aimless")

        self.assertEqual(work(), "ok")
        self.assertEqual(desk.journal[-1], ("aimless", "ok"))

    def test_one_inside_another(self):
        desk = full()
        before = whole_state(desk)
        with self.assertRaises(KeyError):
            with Trial(desk):
                desk.do("aimless")
                middle = whole_state(desk)
                self.assertIsNotNone(fault(run_whole, desk, "drop s\nnothing"))
                self.assertEqual(whole_state(desk), middle)
                raise KeyError(1)
        self.assertEqual(whole_state(desk), before)


class Replayed(unittest.TestCase):
    def check(self, desk):
        other, differ = replayed(desk.journal)
        self.assertIsInstance(other, Desk)
        self.assertIsNot(other, desk)
        self.assertEqual(differ, ())
        self.assertEqual(other.journal, desk.journal)
        self.assertEqual(deep_state(other), deep_state(desk))
        if desk.answer is None:
            self.assertIsNone(other.answer)
        else:
            self.assertEqual(claim(other.answer), claim(desk.answer))

    def test_journals(self):
        for desk in (Desk(), full(), made()):
            self.check(desk)
        desk = full()
        desk.run("nothing\n\nsolve 9\ndrop q")
        fault(desk.do, "var x 0 1\nsolve")
        self.check(desk)
        fault(run_whole, desk, "aimless\nnothing")
        try_out(desk, "aimless\nnothing")
        self.check(desk)

    def test_the_empty_journal(self):
        desk, differ = replayed(())
        self.assertEqual((desk.journal, differ, fault(desk.present) is None), ((), (), False))

    def test_changed_replies(self):
        journal = full().journal
        for places in ((0,), (6,), (2, 7, 11), tuple(range(len(journal)))):
            changed = tuple((line, reply + "x" if at in places else reply) for at, (line, reply) in enumerate(journal))
            desk, differ = replayed(changed)
            self.assertEqual((differ, differ.__class__), (places, tuple))
            self.assertEqual(desk.journal, journal)
        desk, differ = replayed((("var x 0 1", "refused"), ("nothing", "ok"), ("solve", "told at 0"), ("a\nb", "refused")))
        self.assertEqual(differ, (0, 1))
        self.assertEqual(list(desk), ["var x 0 1", "nothing", "solve", "a\nb"])

    def test_changed_lines(self):
        journal = list(made("var x 0 1\nsolve\nkeep p").journal)
        journal[0] = ("var x 1 2", "ok")
        desk, differ = replayed(tuple(journal))
        self.assertEqual((differ, desk.answer.point), ((1,), (1,)))

    def test_chance(self):
        chance = random.Random(94)
        for _ in range(20):
            desk = Desk()
            for _ in range(30):
                desk.run(Journals.some_line(self, chance))
            self.check(desk)


if __name__ == "__main__":
    unittest.main()
