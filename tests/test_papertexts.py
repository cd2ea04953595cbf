"""Point 43: papers as texts."""

import random
import unittest

from bestpapers.errors import BadPaper
from bestpapers.fracs import Frac
from bestpapers.papertexts import paper_text, read_paper
from bestpapers.paperforms import paper_depth
from tests.helpers import fault
from tests.made_papers import numbers_in
from tests.test_judging import some_paper, some_problem

HALF = Frac(1, 2)
PAPERS = (
    (("floors", (((), (1, 0)), ((-2,), (0, 1)))), "floors 2 0 2 1 0 1 -2 2 0 1"),
    (("empty", ()), "empty 0"),
    (("empty", (HALF, -3)), "empty 2 1/2 -3"),
    (("floors", ()), "floors 0"),
    (("floors", (((), ()),)), "floors 1 0 0"),
    (("listed", -7), "listed -7"),
    (("branch", 0, -1, ("empty", (1,)), ("listed", 3)), "branch 0 -1 empty 1 1 listed 3"),
    (("derive", (1, 0), HALF, ("added", (2,)), ("empty", (0, 5))), "derive 2 1 0 1/2 added 1 2 empty 2 0 5"),
    (("derive", (), -1, ("rounded", ()), ("listed", 0)), "derive 0 -1 rounded 0 listed 0"),
    (("derive", (4,), 3, ("split", 1, 2, (5, 6), (-HALF,)), ("floors", ())),
     "derive 1 4 3 split 1 2 2 5 6 1 -1/2 floors 0"),
)
BRANCHES = ("branch", 1, 2, ("branch", 3, 4, ("listed", 5), ("listed", 6)),
            ("derive", (7,), 8, ("added", (9,)), ("branch", 1, 0, ("empty", ()), ("listed", 2))))
LONG = "branch 1 2 branch 3 4 listed 5 listed 6 derive 1 7 8 added 1 9 branch 1 0 empty 0 listed 2"


class Writing(unittest.TestCase):
    def test_each_form(self):
        for paper, text in PAPERS + ((BRANCHES, LONG),):
            self.assertEqual(paper_text(paper), text)

    def test_fracs_that_are_whole(self):
        self.assertEqual(paper_text(("empty", (Frac(4, 2), 2, Frac(-1, 3)))), "empty 3 2 2 -1/3")


class Reading(unittest.TestCase):
    def wrong(self, text, place):
        self.assertEqual(fault(read_paper, text), (BadPaper, {"place": place}), text)

    def check_kinds(self, paper):
        whole, numbers = numbers_in(paper)
        self.assertTrue(all(number.__class__ is int for number in whole), paper)
        self.assertTrue(all(number.__class__ is Frac for number in numbers), paper)

    def test_each_form(self):
        for paper, text in PAPERS + ((BRANCHES, LONG),):
            self.assertEqual(read_paper(text), paper)
            self.check_kinds(read_paper(text))

    def test_there_and_back(self):
        chance = random.Random(43)
        for _ in range(300):
            problem = some_problem(chance)
            paper = some_paper(chance, problem, problem.m, 4)
            found = read_paper(paper_text(paper))
            self.assertEqual(found, paper)
            self.check_kinds(found)

    def test_a_word_left_out_at_the_end(self):
        for _, text in PAPERS + ((BRANCHES, LONG),):
            words = text.split(" ")
            for many in range(1, len(words)):
                self.wrong(" ".join(words[:many]), many)

    def test_words_behind_the_end(self):
        for _, text in PAPERS + ((BRANCHES, LONG),):
            words = text.split(" ")
            for more in ("0", "x", "", "listed 0"):
                self.wrong(text + " " + more, len(words))

    def test_an_empty_word_at_each_place(self):
        for _, text in PAPERS + ((BRANCHES, LONG),):
            words = text.split(" ")
            for at in range(len(words)):
                self.wrong(" ".join(words[:at] + [""] + words[at:]), at)
                self.wrong(" ".join(words[:at] + [""] + words[at + 1:]), at)

    def test_a_letter_at_each_place(self):
        for _, text in PAPERS + ((BRANCHES, LONG),):
            words = text.split(" ")
            for at in range(len(words)):
                for letter in ("x", "Empty", "+1", "01", "00", "-0", "1.0", "2/4", "1/0", "--1", "-", "1\n", "1e3"):
                    self.wrong(" ".join(words[:at] + [letter] + words[at + 1:]), at)
                    self.wrong(" ".join(words[:at] + [letter] + words[at:]), at)

    def test_a_word_left_out_or_doubled(self):
        for text, at, place in (
            ("branch 1 2 listed 0 listed 1", 1, 2), ("branch 1 2 listed 0 listed 1", 0, 0),
            ("branch 1 2 listed 0 listed 1", 3, 3), ("branch 1 2 listed 0 listed 1", 4, 4),
            ("empty 2 5 6", 1, 3), ("empty 2 5 6", 2, 3), ("derive 1 5 6 added 0 empty 0", 3, 3),
            ("derive 1 5 6 added 0 empty 0", 2, 3), ("derive 1 5 6 added 0 empty 0", 4, 4),
            ("floors 1 0 1 5", 1, 2), ("floors 1 1 5 1 6", 2, 5),
        ):
            words = text.split(" ")
            self.wrong(" ".join(words[:at] + words[at + 1:]), place)
        for text, at, place in (
            ("branch 1 2 listed 0 listed 1", 1, 3), ("branch 1 2 listed 0 listed 1", 3, 4),
            ("empty 2 5 6", 1, 4), ("empty 2 5 6", 3, 4), ("empty 2 5 6", 0, 1),
            ("derive 1 5 6 added 0 empty 0", 3, 4), ("floors 1 0 1 5", 2, 4), ("listed 0", 1, 2),
        ):
            words = text.split(" ")
            self.wrong(" ".join(words[:at + 1] + words[at:]), place)

    def test_exchanged_words(self):
        self.wrong("1 empty 5", 0)
        self.wrong("branch 1 listed 2 0 listed 1", 2)
        self.wrong("derive 1 5 6 empty 0 added 0", 4)
        self.wrong("derive 1 5 6 floors 0 empty 0", 4)
        self.wrong("rounded 0", 0)
        self.wrong("split 1 2 0 0", 0)
        self.wrong("added 1 1", 0)

    def test_fractions_where_integers_must_stand(self):
        for text, place in (("branch 1/2 0 listed 0 listed 0", 1), ("branch 0 1/2 listed 0 listed 0", 2),
                            ("listed 1/2", 1), ("empty 1/2 0", 1), ("floors 1/2", 1),
                            ("derive 0 0 split 1/2 0 0 0 listed 0", 4), ("derive 0 0 split 0 1/2 0 0 listed 0", 5)):
            self.wrong(text, place)

    def test_minus_signs(self):
        for text, place in (("empty -1", 1), ("floors -1", 1), ("floors 1 -1 0", 2), ("floors 1 0 -1", 3),
                            ("derive -1 0 added 0 listed 0", 1), ("derive 0 0 added -1 listed 0", 4)):
            self.wrong(text, place)
        self.assertEqual(read_paper("branch -1 -2 listed -3 listed 0"),
                         ("branch", -1, -2, ("listed", -3), ("listed", 0)))
        self.assertEqual(read_paper("derive 0 -5 split -1 -2 0 0 listed 0"),
                         ("derive", (), -5, ("split", -1, -2, (), ()), ("listed", 0)))

    def test_empty_text(self):
        self.wrong("", 0)
        self.wrong(" ", 0)
        self.wrong("\n", 0)

    def test_lengths(self):
        for many in (299, 300):
            self.assertEqual(read_paper(f"empty {many}" + " 0" * many), ("empty", (0,) * many))
            self.assertEqual(read_paper(f"floors {many}" + " 0 0" * many), ("floors", (((), ()),) * many))
        for many in (301, 302, 10 ** 12):
            self.wrong(f"empty {many}" + " 0" * 301, 1)
            self.wrong(f"floors {many}" + " 0 0" * 301, 1)
            self.wrong(f"floors 1 {many}" + " 0" * 301, 2)
            self.wrong(f"derive 0 0 added {many}" + " 0" * 301, 4)
        self.wrong("empty 300" + " 0" * 299, 301)
        self.wrong("empty 300" + " 0" * 301, 302)

    def test_digits_of_integers(self):
        for number in (10 ** 13 - 1, 1 - 10 ** 13):
            self.assertEqual(read_paper(f"listed {number}"), ("listed", number))
            self.assertEqual(read_paper(f"branch {number} {number} listed 0 listed 0")[1:3], (number, number))
        for number in (10 ** 13, -10 ** 13, 10 ** 50):
            self.wrong(f"listed {number}", 1)
            self.wrong(f"branch {number} 0 listed 0 listed 0", 1)
            self.wrong(f"branch 0 {number} listed 0 listed 0", 2)
            self.wrong(f"derive 0 0 split 0 {number} 0 0 listed 0", 5)

    def test_figures_of_numbers(self):
        most = 10 ** 40 - 1
        for number in (Frac(most), Frac(-most), Frac(1, most), Frac(-most, most - 1)):
            self.assertEqual(read_paper(f"empty 1 {number}"), ("empty", (number,)))
            self.assertEqual(read_paper(f"derive 0 {number} added 0 listed 0")[2], number)
        for number in (10 ** 40, -10 ** 40, f"1/{10 ** 40}", f"{10 ** 40}/3"):
            self.wrong(f"empty 1 {number}", 2)
            self.wrong(f"derive 0 {number} added 0 listed 0", 2)

    def test_depth(self):
        for many in (198, 199):
            text = "derive 0 0 added 0 " * many + "listed 0"
            self.assertEqual(paper_depth(read_paper(text)), many)
            self.assertEqual(paper_text(read_paper(text)), text)
        self.wrong("derive 0 0 added 0 " * 200 + "listed 0", 1000)
        self.wrong("derive 0 0 added 0 " * 200 + "x", 1000)
        self.wrong("derive 0 0 added 0 " * 199 + "derive 0 0 added 0", 1000)
        text = "branch 0 0 listed 0 " * 199
        self.assertEqual(paper_depth(read_paper(text + "listed 0")), 199)
        self.wrong(text + "branch 0 0 listed 0 listed 0", 199 * 5 + 3)
        deep = "branch 0 0 " * 199 + "listed 0 listed 0" + " listed 0" * 198
        self.assertEqual(paper_depth(read_paper(deep)), 199)
        self.wrong("branch 0 0 " * 200 + "listed 0", 600)


if __name__ == "__main__":
    unittest.main()
