"""Point 37: answers."""

import unittest

from bestpapers.answers import Answer
from bestpapers.fracs import Frac
from tests.helpers import shape

PAPER = ("floors", (((), (1, Frac(1, 2))),))
HALF = Frac(1, 2)


class Answers(unittest.TestCase):
    def check(self, answer, *expected):
        found = (answer.kind, answer.totals, answer.point, answer.at, answer.ray)
        self.assertEqual(found, expected)
        self.assertIs(answer.paper, PAPER)
        for row in (answer.totals, answer.point, answer.ray):
            if row is not None:
                self.assertEqual(shape(row), ("tuple", ["Frac"] * len(row)))

    def test_told_and_best(self):
        for kind, make in (("told", Answer.told), ("best", Answer.best)):
            self.check(make([3, HALF], [1, HALF, 0], PAPER), kind, (3, HALF), (1, HALF, 0), None, None)
            self.check(make((3,), (HALF, 1), PAPER), kind, (3,), (HALF, 1), None, None)
            self.check(make((), [0], PAPER), kind, (), (0,), None, None)
            self.check(make([], [], PAPER), kind, (), (), None, None)

    def test_empty(self):
        self.check(Answer.empty(PAPER), "empty", (), None, None, None)

    def test_endless(self):
        answer = Answer.endless(1, [3], [1, HALF], [0, 1], PAPER)
        self.check(answer, "endless", (3,), (1, HALF), 1, (0, 1))
        self.assertEqual(shape(answer.at), "int")
        self.check(Answer.endless(0, (), (1,), (HALF,), PAPER), "endless", (), (1,), 0, (HALF,))
        self.check(Answer.endless(-1, (), (1,), (), PAPER), "endless", (), (1,), -1, ())

    def test_lists_that_change_later(self):
        totals, point, ray = [3], [1, 2], [0, 1]
        answers = [Answer.told(totals, point, PAPER), Answer.best(totals, point, PAPER),
                   Answer.endless(1, totals, point, ray, PAPER)]
        for row in (totals, point, ray):
            row[0] = 99
            row.append(7)
        for answer in answers:
            self.assertEqual((answer.totals, answer.point), ((3,), (1, 2)))
        self.assertEqual(answers[2].ray, (0, 1))

    def test_arguments_stay(self):
        totals, point, ray = [3], [1, HALF], [0, 1]
        Answer.endless(1, totals, point, ray, PAPER)
        self.assertEqual(shape([totals, point, ray]), shape([[3], [1, HALF], [0, 1]]))

    def test_long_sequences(self):
        row = list(range(24))
        answer = Answer.endless(0, row, row, row, PAPER)
        self.assertEqual((answer.totals, answer.point, answer.ray), (tuple(row),) * 3)

    def test_nothing_is_looked_at(self):
        self.assertEqual(Answer.told([1], [2], ("listed", 5)).paper, ("listed", 5))


if __name__ == "__main__":
    unittest.main()
