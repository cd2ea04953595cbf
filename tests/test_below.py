"""Points 56, 57 and 58: runs from a feasible corner to better ones."""

import random
import unittest
from fractions import Fraction

from bestpapers.below import Climb, below_run
from bestpapers.changes import relaxed
from bestpapers.corners import by_corners
from bestpapers.fracs import Frac
from bestpapers.itemrows import item_box, item_row
from bestpapers.nodes import Node
from bestpapers.points import is_feasible
from bestpapers.problems import Problem
from bestpapers.purifying import purified
from bestpapers.refusals import BadHeld, BadSides, Dependent, NotFeasible
from bestpapers.rows import Aim, Row
from bestpapers.stages import compare, stage_vector
from bestpapers.tables import Table
from bestpapers.variables import Variable
from tests.algebra import fracs, plain, solved, some_mixed
from tests.corner_search import corners, first_rows, gets_better, told
from tests.helpers import fault, shape
from tests.test_purifying import some_points

TINY = Fraction(1, 10 ** 40)


def square(sense="max", aim=(1, 1)):
    return Problem([Variable("x", 0, 3), Variable("y", 0, 3)], [Row("r", [1, 1], "<=", 4)], [Aim(sense, aim)])


class Reference:
    """The run by the words of points 56 and 57, with little numbers in the place of margins."""

    def __init__(self, problem, chosen, sides):
        self.problem, self.node = problem, Node(problem)
        items = range(problem.n + problem.m)
        self.margins = {at: 0 if at in chosen else TINY ** (at + 1) for at in items}
        self.sides = dict(zip(chosen, sides))

    def pair(self):
        return tuple(sorted(self.sides)), tuple(self.sides[at] for at in sorted(self.sides))

    def ends(self, at):
        low, high = item_box(self.problem, at)
        return {"low": None if low is None else plain(low) - self.margins[at],
                "high": None if high is None else plain(high) + self.margins[at]}

    def corner(self):
        chosen = sorted(self.sides)
        return solved([item_row(self.problem, at) for at in chosen],
                      [Frac(end.numerator, end.denominator) for end in (self.ends(at)[self.sides[at]] for at in chosen)])

    def wrong(self):
        table, found = Table(self.node, tuple(self.sides)), []
        for at, side in self.sides.items():
            low, high = item_box(self.problem, at)
            stage, number = next((s, a) for s, a in enumerate(table.column(at)) if a)
            if low != high and (number < 0 if side == "low" else number > 0):
                found.append((stage, at))
        return min(found) if found else None

    def direction(self, g):
        chosen = sorted(self.sides)
        step = 1 if self.sides[g] == "low" else -1
        return solved([item_row(self.problem, at) for at in chosen], [step if at == g else 0 for at in chosen])

    def step(self, g):
        """Move g; False if nothing stops it."""
        corner, direction, stops = self.corner(), self.direction(g), []
        for at in range(self.problem.n + self.problem.m):
            row = [plain(a) for a in item_row(self.problem, at)]
            value, rate = (sum(a * b for a, b in zip(row, way)) for way in (corner, direction))
            side = "high" if rate > 0 else "low"
            end = self.ends(at)[side]
            if rate and end is not None:
                stops.append(((end - value) / rate, at, side))
        if not stops:
            return False
        stops.sort()
        assert len(stops) < 2 or stops[0][0] < stops[1][0]
        _, at, side = stops[0]
        del self.sides[g]
        self.sides[at] = side
        return True


class Climbing(unittest.TestCase):
    def check(self, problem, chosen, sides):
        climb = below_run(problem, chosen, sides)
        self.assertIsInstance(climb, Climb)
        run, path, ray, stage = Reference(problem, chosen, sides), [], None, None
        path.append(run.pair())
        while run.wrong() is not None:
            stage, g = run.wrong()
            ray = fracs(run.direction(g))
            if not run.step(g):
                break
            ray = stage = None
            path.append(run.pair())
        self.assertEqual(climb.path, tuple(path))
        self.assertEqual(len(set(path)), len(path))
        self.assertEqual((climb.ray, climb.stage), (ray, stage))
        self.check_kinds(problem, climb)
        self.check_claims(problem, climb)
        return climb

    def check_kinds(self, problem, climb):
        n = problem.n
        pair = ("tuple", [("tuple", ["int"] * n), ("tuple", ["str"] * n)])
        self.assertEqual(shape(climb.path), ("tuple", [pair] * len(climb.path)))
        self.assertEqual(shape(climb.point), ("tuple", ["Frac"] * n))
        self.assertIn(shape(climb.ray), ("NoneType", ("tuple", ["Frac"] * n)))
        self.assertIn(shape(climb.stage), ("NoneType", "int"))

    def check_claims(self, problem, climb):
        loose = relaxed(problem)
        self.assertTrue(is_feasible(loose, climb.point))
        kind, at, point = told(loose)
        if climb.ray is None:
            self.assertEqual((kind, climb.point), ("told", point))
            return
        self.assertEqual((kind, climb.stage), ("endless", at))
        self.assertTrue(gets_better(problem, climb.ray))
        self.assertFalse(any(first_rows(problem, climb.ray)[:at]))
        best = min(stage_vector(loose, corner)[:at] for corner in corners(loose))
        self.assertEqual(stage_vector(loose, climb.point)[:at], best)

    def test_a_square(self):
        climb = self.check(square(), (0, 1), ("low", "low"))
        self.assertEqual(climb.point, (1, 3))
        self.assertGreater(len(climb.path), 2)
        climb = self.check(square(), [0, 1], ["low", "low"])
        self.assertEqual(climb.path[0], ((0, 1), ("low", "low")))

    def test_the_start_is_the_end(self):
        climb = self.check(square("min"), (0, 1), ("low", "low"))
        self.assertEqual((climb.path, climb.point), ((((0, 1), ("low", "low")),), (0, 0)))

    def test_only_the_side_changes(self):
        problem = Problem([Variable("x", 0, 3), Variable("y", 0, 3)], [Row("r", [1, 1], "<=", 9)], [Aim("max", [1, 0])])
        climb = self.check(problem, (0, 1), ("low", "high"))
        self.assertEqual(climb.path, (((0, 1), ("low", "high")), ((0, 1), ("high", "high")), ((0, 1), ("high", "low"))))
        self.assertEqual(climb.point, (3, 0))

    def test_several_items_stop_at_once(self):
        """Without margins both rows stop x at 2; the later item has the lesser margin."""
        for order in (0, 1):
            rows = [Row("r", [1, 1], "<=", 2), Row("s", [2, -1], "<=", 4)]
            problem = Problem([Variable("x", 0, 9), Variable("y", 0, 2)], rows[::-1] if order else rows,
                              [Aim("max", [3, 1])])
            climb = self.check(problem, (0, 1), ("low", "low"))
            self.assertEqual(climb.point, (2, 0))
            self.assertEqual(climb.path[1], ((1, 3), ("low", "high")))
        problem = Problem([Variable("x", 0, 1), Variable("y", 0, 1), Variable("z", 0, 1)],
                          [Row(f"r{at}", row, "<=", 1) for at, row in enumerate(
                              ([1, 1, 0], [0, 1, 1], [1, 0, 1], [1, 1, 1], [2, 1, 1]))],
                          [Aim("max", [1, 1, 1]), Aim("max", [0, 0, 1])])
        self.check(problem, (0, 1, 2), ("low",) * 3)

    def test_a_ray(self):
        problem = Problem([Variable("x"), Variable("y")], [Row("r", [2, -1], "<=", 1)],
                          [Aim("min", [0, 0]), Aim("max", [1, 0])])
        climb = self.check(problem, (0, 1), ("low", "low"))
        self.assertEqual((climb.stage, climb.point), (1, (Frac(1, 2), 0)))
        self.assertEqual(climb.ray, (Frac(1, 2), 1))
        problem = Problem([Variable("x", None, 5)], (), [Aim("min", [2])])
        climb = self.check(problem, (0,), ("high",))
        self.assertEqual((climb.ray, climb.stage, climb.point), ((-1,), 0, (5,)))

    def test_a_ray_of_a_row(self):
        problem = Problem([Variable("x")], [Row("r", [4], ">=", 2)], [Aim("max", [1])])
        climb = self.check(problem, (1,), ("low",))
        self.assertEqual((climb.ray, climb.stage, climb.point), ((Frac(1, 4),), 0, (Frac(1, 2),)))

    def test_fixed_items(self):
        problem = Problem([Variable("x", 1, 1), Variable("y", 0, 3), Variable("z", 0, 3)],
                          [Row("r", [1, 1, 1], "=", 3), Row("s", [0, 1, -1], "<=", 1)], [Aim("max", [9, 1, 0])])
        for sides in (("low", "low", "low"), ("high", "low", "high")):
            self.check(problem, (0, 1, 3), sides)
        self.check(problem, (0, 3, 4), ("low", "high", "high"))

    def test_whole_variables_are_like_others(self):
        problem = Problem([Variable("x", 0, 3, whole=True)], [Row("r", [2], "<=", 3)], [Aim("max", [1])])
        self.assertEqual(self.check(problem, (0,), ("low",)).point, (Frac(3, 2),))

    def test_many_problems(self):
        chance = random.Random(58)
        lengths, rays = [], 0
        for _ in range(200):
            problem = some_mixed(chance, 3, 4, whole=2)
            for point in some_points(chance, problem):
                found = purified(problem, point)
                if found[0] == "corner":
                    climb = self.check(problem, found[1], found[2])
                    self.assertNotEqual(compare(problem, climb.point, found[3]), 1)
                    lengths.append(len(climb.path))
                    rays += climb.ray is not None
        self.assertGreater(rays, 5)
        self.assertGreater(max(lengths), 3)

    def test_against_by_corners(self):
        chance = random.Random(57)
        several = 0
        for _ in range(150):
            problem = some_mixed(chance, 3, 4)
            for corner in corners(problem)[-2:]:
                _, chosen, sides, _ = purified(problem, corner)
                climb = below_run(problem, chosen, sides)
                several += len(climb.path) > 1
                if climb.ray is None:
                    self.assertEqual(climb.point, by_corners(problem))
        self.assertGreater(several, 20)


class Refusals(unittest.TestCase):
    def test_chosen(self):
        problem = Problem(square().variables, [Row("r", [1, 1], "<=", 4), Row("s", [2, 2], "<=", 9)])
        for chosen in ((1, 0), (0, 0), (2, 1), (0,), (), (0, 1, 2), (0, 4), (-1, 0), (4, 0)):
            for passed in (chosen, list(chosen)):
                for sides in (("low", "low"), ("x",), ()):
                    self.assertEqual(fault(below_run, problem, passed, sides), (BadHeld, {"chosen": chosen}))
        self.assertEqual(fault(below_run, problem, (2, 3), ("x",)), (Dependent, {"at": 3}))

    def test_sides(self):
        for sides in ((), ("low",), ("low", "low", "low"), ("low", "up"), ("", "low"), ("Low", "low"), ("low", "low ")):
            for passed in (sides, list(sides)):
                self.assertEqual(fault(below_run, square(), (0, 1), passed), (BadSides, {"sides": sides}))

    def test_a_missing_end(self):
        problem = Problem([Variable("x"), Variable("y", None, 3)], [Row("r", [1, 1], "<=", 4), Row("s", [1, 0], ">=", 0)])
        for chosen, sides in (((0, 1), ("high", "high")), ((0, 1), ("low", "low")), ((0, 2), ("low", "low")),
                              ((1, 3), ("high", "high")), ((2, 3), ("low", "low"))):
            self.assertEqual(fault(below_run, problem, chosen, sides), (BadSides, {"sides": sides}))
        self.assertIsNone(fault(below_run, problem, (0, 1), ("low", "high")))

    def test_not_feasible(self):
        for chosen, sides in (((0, 1), ("high", "high")),):
            self.assertEqual(fault(below_run, square(), chosen, sides), (NotFeasible, {}))
        self.assertIsNone(fault(below_run, square(), (0, 2), ("high", "high")))
        problem = Problem([Variable("x", 0, 1)], [Row("r", [1], ">=", 2)])
        for chosen, side in (((0,), "low"), ((0,), "high"), ((1,), "low")):
            self.assertEqual(fault(below_run, problem, chosen, (side,)), (NotFeasible, {}))


if __name__ == "__main__":
    unittest.main()
