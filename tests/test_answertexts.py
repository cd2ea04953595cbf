"""Point 44: answers as texts."""

import itertools
import unittest

from bestpapers.answers import Answer
from bestpapers.answertexts import answer_text, read_answer
from bestpapers.errors import BadPaper, BadText
from bestpapers.fracs import Frac
from tests.helpers import fault, shape
from tests.made_papers import numbers_in

HALF = Frac(1, 2)
PAPER = ("floors", (((), (1,)),))
SAMPLES = (
    (Answer.told([2, HALF], [0, -3], PAPER), "told\ntotals 2 1/2\npoint 0 -3\npaper floors 1 0 1 1"),
    (Answer.told([], [1], PAPER), "told\ntotals\npoint 1\npaper floors 1 0 1 1"),
    (Answer.best([2], [], PAPER), "best\ntotals 2\npoint\npaper floors 1 0 1 1"),
    (Answer.empty(("empty", (HALF,))), "empty\npaper empty 1 1/2"),
    (Answer.endless(0, [], [1, 2], [HALF, 0], ("floors", ())),
     "endless 0\ntotals\npoint 1 2\nray 1/2 0\npaper floors 0"),
    (Answer.endless(9, [1], [1, 2], [], ("listed", 4)), "endless 9\ntotals 1\npoint 1 2\nray\npaper listed 4"),
)


def parts(answer):
    return (answer.kind, answer.totals, answer.point, answer.at, answer.ray, answer.paper)


class Writing(unittest.TestCase):
    def test_each_kind(self):
        for answer, text in SAMPLES:
            self.assertEqual(answer_text(answer), text)


class Reading(unittest.TestCase):
    def wrong(self, text, line):
        self.assertEqual(fault(read_answer, text), (BadText, {"line": line}), text)

    def test_each_kind(self):
        for answer, text in SAMPLES:
            found = read_answer(text)
            self.assertIsInstance(found, Answer)
            self.assertEqual(parts(found), parts(answer))
            self.assertEqual(shape(found.at), shape(answer.at))
            for row in (found.totals, found.point or (), found.ray or ()):
                self.assertEqual(shape(row), ("tuple", ["Frac"] * len(row)))
            self.assertTrue(all(number.__class__ is Frac for number in numbers_in(found.paper)[1]))
            self.assertEqual(answer_text(found), text)

    def test_a_missing_line(self):
        for _, text in SAMPLES:
            lines = text.split("\n")
            for at in range(len(lines)):
                self.wrong("\n".join(lines[:at] + lines[at + 1:]), at)

    def test_fewer_lines(self):
        for _, text in SAMPLES:
            lines = text.split("\n")
            for many in range(1, len(lines)):
                self.wrong("\n".join(lines[:many]), many)
        self.wrong("", 0)

    def test_a_doubled_line(self):
        for _, text in SAMPLES:
            lines = text.split("\n")
            for at in range(len(lines)):
                self.wrong("\n".join(lines[:at + 1] + lines[at:]), at + 1)

    def test_another_order(self):
        for _, text in SAMPLES:
            lines = text.split("\n")
            for order in itertools.permutations(lines):
                changed = [one == other for one, other in zip(order, lines)]
                if not all(changed):
                    self.wrong("\n".join(order), changed.index(False))

    def test_lines_behind_the_last_one(self):
        for _, text in SAMPLES:
            for more in ("", "x", "paper empty 0", " "):
                self.wrong(text + "\n" + more, text.count("\n") + 1)

    def test_spaces(self):
        for _, text in SAMPLES:
            lines = text.split("\n")
            for at in range(len(lines) - 1):
                for changed in (lines[at] + " ", " " + lines[at], lines[at].replace(" ", "  ", 1) + " ", lines[at] + " x"):
                    self.wrong("\n".join(lines[:at] + [changed] + lines[at + 1:]), at)
                if " " in lines[at]:
                    changed = lines[at].replace(" ", "  ", 1)
                    self.wrong("\n".join(lines[:at] + [changed] + lines[at + 1:]), at)
            self.wrong("\n".join(lines[:-1] + [" " + lines[-1]]), len(lines) - 1)

    def test_words(self):
        rest = "totals\npoint 1\nray 1\npaper listed 0"
        for first in ("Told", "tolds", "", "endless", "endless ", "endless x", "endless -1", "endless 10", "endless 00",
                      "endless 1 1", "endless  1", "endless1", "empty 0", "told 0", "best 1", "x", "endless /"):
            self.wrong(first + "\n" + rest, 0)
        for at in range(10):
            self.assertEqual(read_answer(f"endless {at}\n{rest}").at, at)
        for wrong in ("total 1", "Totals 1", "totals1", "", "point 1", "totals +1", "totals 2/4", "totals 01", "totals x",
                      "totals 1/0", "totals " + "1" * 41, "totals 1/" + "1" * 41):
            self.wrong(f"told\n{wrong}\npoint 1\npaper listed 0", 1)
            self.wrong(f"endless 3\n{wrong}\npoint 1\nray 1\npaper listed 0", 1)
        for wrong in ("points 1", "", "totals 1", "point 1,2", "point -0", "ray 1"):
            self.wrong(f"best\ntotals\n{wrong}\npaper listed 0", 2)
        for wrong in ("rays 1", "", "point 1", "ray 1 1/1", "paper listed 0"):
            self.wrong(f"endless 3\ntotals\npoint 1\n{wrong}\npaper listed 0", 3)

    def test_forty_figures(self):
        most = "9" * 40
        self.assertEqual(read_answer(f"told\ntotals -{most}\npoint 1/{most}\npaper listed 0").totals, (-10 ** 40 + 1,))

    def test_how_many_numbers(self):
        for many in (0, 1, 23, 24):
            answer = read_answer("endless 1" + "".join("\n" + name + " 1" * many for name in ("totals", "point", "ray"))
                                 + "\npaper listed 0")
            self.assertEqual((answer.totals, answer.point, answer.ray), ((1,) * many,) * 3)
        for many in (25, 26, 60):
            for at, name in enumerate(("totals", "point", "ray"), 1):
                lines = ["endless 1", "totals 1", "point 1", "ray 1", "paper listed 0"]
                lines[at] = name + " 1" * many
                self.wrong("\n".join(lines), at)

    def test_the_word_paper(self):
        for wrong in ("paper", "papers listed 0", "Paper listed 0", "", "listed 0", "paperlisted 0"):
            self.wrong("empty\n" + wrong, 1)
            self.wrong("told\ntotals\npoint 1\n" + wrong, 3)

    def test_a_faulty_paper(self):
        for wrong, place in (("", 0), ("x", 0), (" listed 0", 0), ("listed", 1), ("listed 0 ", 2), ("empty 2 1", 3),
                             ("listed 0 0", 2), ("branch 0 0 listed 1 listed 00", 6)):
            for first in ("empty\n", "told\ntotals\npoint 1\n", "endless 1\ntotals\npoint 1\nray 1\n"):
                self.assertEqual(fault(read_answer, first + "paper " + wrong), (BadPaper, {"place": place}))

    def test_a_faulty_line_and_a_faulty_paper(self):
        self.wrong("told\ntotals x\npoint 1\npaper x", 1)
        self.wrong("told\ntotals 1\npoint 1 \npaper x", 2)
        self.wrong("empty\npaper x\n", 2)
        self.wrong("empty\npaper x\npaper listed 0", 2)
        self.wrong("endless 1\ntotals\npoint\nray 1/1\npaper ", 3)

    def test_two_figures_of_at(self):
        answer = Answer.endless(12, [], [1], [1], ("listed", 0))
        self.assertEqual(answer_text(answer).split("\n")[0], "endless 12")
        self.wrong(answer_text(answer), 0)


if __name__ == "__main__":
    unittest.main()
