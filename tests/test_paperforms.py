"""Points 32, 33 and 36: the forms of papers, whether they fit, and what they hold."""

import unittest

from bestpapers.fracs import Frac
from bestpapers.paperforms import fits, paper_counts, paper_depth, paper_nodes
from bestpapers.problems import Problem
from bestpapers.rows import Aim, Row
from bestpapers.variables import Variable
from tests.helpers import HUGE, shape

LEAF = ("listed", 0)
HALF = Frac(1, 2)


def problem():
    """x and z are whole, y is not; two rows, one aim: four stages."""
    return Problem(
        [Variable("x", 0, 3, whole=True), Variable("y", 0, 3), Variable("z", 0, 3, whole=True)],
        [Row("a", [1, 1, 1], "<=", 6), Row("b", [1, 0, -1], "=", 1)],
        [Aim("min", [1, 1, 1])],
    )


def added(prices, below=LEAF, coefficients=(0, 1, 0)):
    return ("derive", coefficients, 0, ("added", prices), below)


def rounded(coefficients, prices=(0, 0), below=LEAF):
    return ("derive", coefficients, 0, ("rounded", prices), below)


def split(variable, low_prices=(0, 0), high_prices=(0, 0), below=LEAF, coefficients=(0, 1, 0)):
    return ("derive", coefficients, 0, ("split", variable, 1, low_prices, high_prices), below)


def branch(low_paper=LEAF, high_paper=LEAF, variable=0, k=1):
    return ("branch", variable, k, low_paper, high_paper)


def prices(many):
    return (0,) * many


def lines(many, wide=2):
    """A "floors" with many lines that fits a problem with two rows."""
    return ("floors", tuple((prices(at), prices(wide)) for at in range(many)))


class Fits(unittest.TestCase):
    def check(self, paper, expected):
        self.assertIs(fits(problem(), paper), expected, paper)

    def check_prices(self, paper_of):
        """The prices must be two at the top, and one more under each derived row."""
        for many in range(5):
            self.check(paper_of(prices(many)), many == 2)
            self.check(added((0, 0), paper_of(prices(many))), many == 3)
            self.check(rounded((0, 0, 0), (0, 0), paper_of(prices(many))), many == 3)
            self.check(split(0, below=paper_of(prices(many))), many == 3)
            self.check(added((0, 0), added((0, 0, 0), paper_of(prices(many)))), many == 4)
            self.check(branch(LEAF, paper_of(prices(many))), many == 2)
            self.check(branch(paper_of(prices(many))), many == 2)
            self.check(branch(LEAF, added((0, 0), branch(paper_of(prices(many))))), many == 3)

    def test_empty(self):
        self.check_prices(lambda row: ("empty", row))

    def test_a_derived_row_counts_below_it_alone(self):
        for low, high in ((2, 2), (3, 2), (2, 3), (3, 3)):
            paper = branch(added((0, 0), ("empty", prices(3))), ("empty", prices(high)))
            self.check(paper, high == 2)
            paper = branch(("empty", prices(low)), added((0, 0), ("empty", prices(3))))
            self.check(paper, low == 2)

    def test_prices_of_lines(self):
        self.check_prices(lambda row: ("floors", (((), row),)))
        self.check_prices(lambda row: ("floors", (((), row), ((0,), row))))

    def test_one_wrong_line(self):
        self.check(("floors", (((), (0, 0)), ((1,), (0, 0)), ((1, 1), (0, 0)))), True)
        self.check(("floors", (((), (0, 0)), ((1,), (0,)), ((1, 1), (0, 0)))), False)
        self.check(("floors", (((), (0, 0)), ((1,), (0, 0)), ((1, 1), (0, 0, 0)))), False)

    def test_multipliers(self):
        for at in range(4):
            for many in range(6):
                told = [[prices(line), (0, 0)] for line in range(4)]
                told[at][0] = prices(many)
                self.check(("floors", tuple(tuple(line) for line in told)), many == at)

    def test_number_of_lines(self):
        for many in range(7):
            self.check(lines(many), many <= 4)
            self.check(branch(LEAF, lines(many)), many <= 4)
        bare = Problem([Variable("x"), Variable("y")])
        for many in range(5):
            self.assertIs(fits(bare, lines(many, 0)), many <= 2)

    def test_variable_of_a_branch(self):
        for variable in (-1, -2, -3, 0, 1, 2, 3, 4, 5, HUGE, -HUGE):
            self.check(branch(variable=variable), variable in (0, 2))
            self.check(added((0, 0), branch(variable=variable)), variable in (0, 2))
            self.check(split(variable), variable in (0, 2))
            self.check(branch(split(variable)), variable in (0, 2))

    def test_k_may_be_any_integer(self):
        for k in (-HUGE, -1, 3, 4, HUGE):
            self.check(branch(k=k), True)
            self.check(("derive", (0, 0, 0), 0, ("split", 0, k, (0, 0), (0, 0)), LEAF), True)

    def test_coefficients(self):
        for many in range(6):
            row = prices(many)
            self.check(added((0, 0), coefficients=row), many == 3)
            self.check(rounded(row), many == 3)
            self.check(split(0, coefficients=row), many == 3)
            self.check(branch(LEAF, added((0, 0), LEAF, row)), many == 3)

    def test_prices_of_reasons(self):
        for many in range(5):
            row = prices(many)
            self.check(added(row), many == 2)
            self.check(rounded((0, 0, 0), row), many == 2)
            self.check(split(0, row), many == 2)
            self.check(split(0, (0, 0), row), many == 2)
            self.check(split(0, row, row), many == 2)
            self.check(added((0, 0), added(row)), many == 3)
            self.check(added((0, 0), rounded((0, 0, 0), row)), many == 3)
            self.check(added((0, 0), split(0, row, row)), many == 3)
            self.check(added((0, 0), split(0, row, (0, 0, 0))), many == 3)
            self.check(added((0, 0), split(0, (0, 0, 0), row)), many == 3)

    def test_rounded_coefficients(self):
        for row, expected in (
            ((1, 0, -2), True), ((Frac(3), Frac(0), 0), True), ((HUGE, 0, 0), True), ((0, 0, 0), True),
            ((HALF, 0, 0), False), ((0, 0, HALF), False), ((0, 1, 0), False), ((0, HALF, 0), False),
            ((1, Frac(1), 1), False), ((1, -1, 1), False), ((1, 0, 1 + Frac(1, HUGE)), False),
        ):
            self.check(rounded(row), expected)
            self.check(branch(LEAF, rounded(row)), expected)
            self.check(added((0, 0), LEAF, row), True)
            self.check(split(2, coefficients=row), True)

    def test_listed(self):
        for index in (0, 1, -1, 99, HUGE, -HUGE):
            self.check(("listed", index), True)
            self.check(branch(LEAF, ("listed", index)), True)

    def test_deep_inside(self):
        good, bad = ("empty", prices(4)), ("empty", prices(3))
        for leaf in (good, bad):
            paper = added((0, 0), branch(LEAF, rounded((1, 0, 0), prices(3), branch(leaf))))
            self.check(paper, leaf == good)
            self.check(branch(branch(LEAF, paper), lines(2)), leaf == good)
            self.check(branch(lines(3), branch(paper, paper)), leaf == good)

    def test_the_greatest_depth(self):
        for last, expected in ((("empty", (0, 0)), True), (("empty", (0,)), False)):
            paper = last
            for _ in range(199):
                paper = branch(LEAF, paper)
            self.check(paper, expected)
        paper = LEAF
        for many in range(199, 0, -1):
            paper = added(prices(1 + many), paper)
        self.check(paper, True)

    def test_integers_and_fracs(self):
        self.check(("floors", (((), (1, HALF)), ((Frac(2),), (Frac(1), -1)))), True)


class Nodes(unittest.TestCase):
    def setUp(self):
        self.paper = branch(
            added((0, 0), branch(("empty", (0, 0, 0)), split(0, prices(3), prices(3), lines(1, 4)))),
            branch(("floors", ()), ("listed", 7)),
        )

    def test_order_and_depth(self):
        found = list(paper_nodes(self.paper))
        self.assertEqual(found, [
            (0, "branch"), (1, "derive"), (2, "branch"), (3, "empty"), (3, "derive"), (4, "floors"),
            (1, "branch"), (2, "floors"), (2, "listed"),
        ])
        self.assertEqual(shape(found), ("list", [("tuple", ["int", "str"])] * 9))

    def test_leaves(self):
        for leaf in (("empty", ()), ("floors", ()), LEAF):
            self.assertEqual(list(paper_nodes(leaf)), [(0, leaf[0])])
            self.assertEqual(paper_depth(leaf), 0)

    def test_is_a_generator(self):
        nodes = paper_nodes(self.paper)
        self.assertEqual(next(nodes), (0, "branch"))
        self.assertEqual(next(nodes), (1, "derive"))

    def test_counts(self):
        counts = paper_counts(self.paper)
        self.assertEqual(list(counts.items()), [
            ("empty", 1), ("floors", 2), ("branch", 3), ("derive", 2), ("listed", 1)])
        self.assertEqual(list(paper_counts(("listed", 3)).items()), [
            ("empty", 0), ("floors", 0), ("branch", 0), ("derive", 0), ("listed", 1)])
        counts["empty"] = 9
        self.assertEqual(paper_counts(self.paper)["empty"], 1)

    def test_depth(self):
        self.assertEqual(paper_depth(self.paper), 4)
        self.assertEqual(paper_depth(branch(self.paper, LEAF)), 5)
        self.assertEqual(paper_depth(branch(LEAF, self.paper)), 5)
        self.assertEqual(paper_depth(added((), LEAF)), 1)
        self.assertEqual(shape(paper_depth(self.paper)), "int")

    def test_many_nodes(self):
        paper = LEAF
        for _ in range(199):
            paper = branch(LEAF, paper)
        self.assertEqual(paper_depth(paper), 199)
        self.assertEqual(paper_counts(paper)["branch"], 199)
        self.assertEqual(paper_counts(paper)["listed"], 200)
        full = LEAF
        for _ in range(10):
            full = branch(full, full)
        self.assertEqual(len(list(paper_nodes(full))), 2047)
        self.assertEqual(paper_depth(full), 10)


if __name__ == "__main__":
    unittest.main()
