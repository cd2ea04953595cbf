"""The interface: what is defined where, with which parameters."""

import importlib
import inspect
import unittest

PLAIN = ("str", "bool", "abs", "neg")
SUMS = ("add", "radd", "sub", "rsub", "mul", "rmul", "floordiv", "rfloordiv", "mod", "rmod")
COMPARISONS = ("eq", "ne", "lt", "le", "gt", "ge")
TALL = ("bool", "neg", "add", "sub", "mul", "rmul")


def operators(*names):
    return [f"__{name}__" for name in names]


# Module, class, its parameters (None: free), and what must stand in the class itself.
CLASSES = (
    ("fracs", "Frac", "(num=0, den=1)",
     ["MOST_FIGURES", "read", "over", "floor", "ceiling", "is_whole"]
     + operators("pow", *PLAIN, *SUMS, *COMPARISONS)),
    ("tall", "Tall", "(parts)",
     ["plain", "far", "over", "sign"] + operators(*TALL, *COMPARISONS)),
    ("variables", "Variable", "(name, low=0, high=None, *, whole=False, pull=None)", []),
    ("rows", "Sum", "(coefficients)", ["amount"]),
    ("rows", "Row", "(name, coefficients, sense, right)", ["__call__"]),
    ("rows", "Aim", "(sense, coefficients, constant=0)", ["amount"]),
    ("problems", "Problem", "(variables, rows=(), aims=())",
     ["MOST_VARIABLES", "MOST_ROWS", "MOST_AIMS", "MOST_SPREAD", "MOST_ASSIGNMENTS",
      "spread", "assignments"] + operators("contains", "getitem", "iter")),
    ("nodes", "Node", "(problem)", ["half", "derived", "row_of", "box_of", "admits", "floor"]),
    ("answers", "Answer", None, ["told", "best", "empty", "endless"]),
    ("listings", "Listing", "(points, complete, paper)", []),
    ("factors", "Factors", "(rows)", ["solve_row", "solve_column", "replaced", "determinant"]),
    ("tables", "Table", "(node, chosen)",
     ["coordinates", "entry", "stage_entry", "column", "side", "end", "corner", "value", "vector",
      "outside", "helpers", "best_helper", "exchanged"]),
    ("dual", "Run", None, []),
    ("below", "Climb", None, []),
    ("presolving", "Trace", None, ["point_in", "point_back", "back"]),
    ("sessions", "Session", "(problem)",
     ["cuts", "use_cuts", "put_rows", "drop_row", "move_right", "move_coefficient", "move_ends", "make_whole",
      "turn_aims", "solve"] + operators("setitem")),
    ("webs", "Web", "(places, edges, supplies)", []),
    ("desks", "Desk", "()",
     ["do", "run", "present", "kept_paper", "answer", "kept", "journal"] + operators("iter")),
    ("trials", "Trial", "(desk)", operators("enter", "exit")),
)
FUNCTIONS = (
    ("itemrows", "item_row", "(problem, at)"),
    ("itemrows", "item_box", "(problem, at)"),
    ("itemrows", "item_name", "(problem, at)"),
    ("itemrows", "item_value", "(problem, at, point)"),
    ("points", "broken", "(problem, point)"),
    ("points", "is_feasible", "(problem, point)"),
    ("points", "aim_values", "(problem, point)"),
    ("stages", "stage_rows", "(problem)"),
    ("stages", "stage_constants", "(problem)"),
    ("stages", "stage_vector", "(problem, point)"),
    ("stages", "compare", "(problem, left, right)"),
    ("changes", "with_rows", "(problem, *rows)"),
    ("changes", "without_row", "(problem, name)"),
    ("changes", "with_right", "(problem, name, right)"),
    ("changes", "with_coefficient", "(problem, name, variable, number)"),
    ("changes", "with_ends", "(problem, name, low, high)"),
    ("changes", "with_whole", "(problem, name, whole)"),
    ("changes", "with_pull", "(problem, name, pull)"),
    ("changes", "with_aims", "(problem, aims)"),
    ("changes", "first_aims", "(problem, many)"),
    ("changes", "relaxed", "(problem)"),
    ("joining", "beside", "(left, right)"),
    ("joining", "scaled", "(problem, name, factor)"),
    ("joining", "reordered", "(problem, order)"),
    ("writing", "problem_text", "(problem)"),
    ("reading", "read_problem", "(text)"),
    ("paperforms", "fits", "(problem, paper)"),
    ("paperforms", "paper_nodes", "(paper)"),
    ("paperforms", "paper_counts", "(paper)"),
    ("paperforms", "paper_depth", "(paper)"),
    ("judging", "shows", "(problem, targets, paper)"),
    ("judges", "judge", "(problem, answer)"),
    ("worths", "worth", "(problem, paper)"),
    ("flattening", "flattened", "(problem, paper)"),
    ("unsplitting", "unsplit", "(problem, paper)"),
    ("besides", "beside_papers", "(left, right, left_paper, right_paper)"),
    ("listings", "judge_listing", "(problem, points, complete, paper)"),
    ("papertexts", "paper_text", "(paper)"),
    ("papertexts", "read_paper", "(text)"),
    ("answertexts", "answer_text", "(answer)"),
    ("answertexts", "read_answer", "(text)"),
    ("heldsets", "held_sets", "(node)"),
    ("heldsets", "repaired", "(node, wanted)"),
    ("heldsets", "held_path", "(node, first, last)"),
    ("purifying", "purified", "(problem, point)"),
    ("mixtures", "mixture", "(problem, point)"),
    ("bounds", "figure_bound", "(problem)"),
    ("dual", "dual_run", "(node, start=None)"),
    ("dual", "empty_prices", "(run)"),
    ("floorlines", "floor_lines", "(table, many)"),
    ("below", "below_run", "(problem, chosen, sides)"),
    ("corners", "by_corners", "(problem)"),
    ("weighing", "weights", "(problem)"),
    ("weighing", "weighed", "(problem, numbers)"),
    ("cuts", "split_cut", "(table, variable)"),
    ("cuts", "rounded_cut", "(node, prices)"),
    ("solving", "solve", "(problem, *, cuts=0, start=None)"),
    ("firstpoints", "first_points", "(problem, many)"),
    ("allpoints", "by_points", "(problem)"),
    ("presolving", "presolve", "(problem)"),
    ("presolved", "solve_presolved", "(problem, *, cuts=0)"),
    ("ranges", "right_range", "(table, name)"),
    ("ranges", "row_prices", "(table, name)"),
    ("ranges", "aim_range", "(table, aim, name)"),
    ("sweeps", "sweep", "(problem, name, low, high)"),
    ("clashes", "clash", "(problem)"),
    ("mirrors", "mirror", "(problem)"),
    ("webproblems", "web_problem", "(web)"),
    ("webproblems", "flow_problem", "(web, source, sink)"),
    ("webproblems", "road_problem", "(web, source, goal)"),
    ("webproblems", "pairing_problem", "(costs)"),
    ("webproblems", "transport_problem", "(supplies, demands, costs)"),
    ("roads", "heights", "(web)"),
    ("roads", "shortest_road", "(web, source, goal)"),
    ("greatest", "greatest_flow", "(web, source, sink)"),
    ("greatest", "bar", "(web, source, sink)"),
    ("cheapest", "cheapest_flow", "(web)"),
    ("pairings", "cheapest_pairing", "(costs)"),
    ("transports", "cheapest_transport", "(supplies, demands, costs)"),
    ("settling", "settled", "(problem, answer)"),
    ("trials", "run_whole", "(desk, text)"),
    ("trials", "try_out", "(desk, text)"),
    ("trials", "replayed", "(journal)"),
    ("reports", "report", "(problem, answer)"),
)
METHODS = (
    ("fracs", "Frac", "over", "(self, other)"),
    ("fracs", "Frac", "floor", "(self)"),
    ("fracs", "Frac", "ceiling", "(self)"),
    ("fracs", "Frac", "read", "(text)"),
    ("tall", "Tall", "over", "(self, number)"),
    ("tall", "Tall", "sign", "(self)"),
    ("tall", "Tall", "plain", "(number)"),
    ("tall", "Tall", "far", "(number)"),
    ("rows", "Sum", "amount", "(self, point)"),
    ("rows", "Aim", "amount", "(self, point)"),
    ("rows", "Row", "__call__", "(self, point)"),
    ("nodes", "Node", "half", "(self, variable, k, side)"),
    ("nodes", "Node", "derived", "(self, coefficients, right)"),
    ("nodes", "Node", "row_of", "(self, at)"),
    ("nodes", "Node", "box_of", "(self, at)"),
    ("nodes", "Node", "admits", "(self, point)"),
    ("nodes", "Node", "floor", "(self, row, constant, prices)"),
    ("answers", "Answer", "told", "(totals, point, paper)"),
    ("answers", "Answer", "best", "(totals, point, paper)"),
    ("answers", "Answer", "empty", "(paper)"),
    ("answers", "Answer", "endless", "(at, totals, point, ray, paper)"),
    ("factors", "Factors", "solve_row", "(self, row)"),
    ("factors", "Factors", "solve_column", "(self, column)"),
    ("factors", "Factors", "replaced", "(self, at, row)"),
    ("tables", "Table", "coordinates", "(self, row)"),
    ("tables", "Table", "entry", "(self, at)"),
    ("tables", "Table", "stage_entry", "(self, stage)"),
    ("tables", "Table", "column", "(self, at)"),
    ("tables", "Table", "side", "(self, at)"),
    ("tables", "Table", "end", "(self, at)"),
    ("tables", "Table", "corner", "(self)"),
    ("tables", "Table", "value", "(self, at)"),
    ("tables", "Table", "vector", "(self)"),
    ("tables", "Table", "outside", "(self)"),
    ("tables", "Table", "helpers", "(self, at)"),
    ("tables", "Table", "best_helper", "(self, at)"),
    ("tables", "Table", "exchanged", "(self, out, into)"),
    ("presolving", "Trace", "point_in", "(self, point)"),
    ("presolving", "Trace", "point_back", "(self, point)"),
    ("presolving", "Trace", "back", "(self, answer)"),
    ("sessions", "Session", "use_cuts", "(self, many)"),
    ("sessions", "Session", "put_rows", "(self, *rows)"),
    ("sessions", "Session", "drop_row", "(self, name)"),
    ("sessions", "Session", "move_right", "(self, name, right)"),
    ("sessions", "Session", "move_coefficient", "(self, name, variable, number)"),
    ("sessions", "Session", "move_ends", "(self, name, low, high)"),
    ("sessions", "Session", "make_whole", "(self, name, whole)"),
    ("sessions", "Session", "turn_aims", "(self, aims)"),
    ("sessions", "Session", "solve", "(self)"),
    ("desks", "Desk", "do", "(self, line)"),
    ("desks", "Desk", "run", "(self, text)"),
    ("desks", "Desk", "present", "(self)"),
    ("desks", "Desk", "kept_paper", "(self, name)"),
)
STATIC = (("fracs", "Frac", "read"), ("tall", "Tall", "plain"), ("tall", "Tall", "far"),
          ("answers", "Answer", "told"), ("answers", "Answer", "best"),
          ("answers", "Answer", "empty"), ("answers", "Answer", "endless"))
PROPERTIES = (("fracs", "Frac", "is_whole"), ("problems", "Problem", "spread"),
              ("problems", "Problem", "assignments"), ("factors", "Factors", "determinant"),
              ("sessions", "Session", "cuts"), ("desks", "Desk", "answer"), ("desks", "Desk", "kept"),
              ("desks", "Desk", "journal"))
GENERATORS = (("paperforms", "paper_nodes"), ("heldsets", "held_sets"))


def found(module, name):
    return getattr(importlib.import_module("bestpapers." + module), name)


class Interface(unittest.TestCase):
    def test_classes(self):
        for module, name, parameters, inside in CLASSES:
            kind = found(module, name)
            self.assertEqual(kind.__module__, "bestpapers." + module)
            if parameters is not None:
                self.assertEqual(str(inspect.signature(kind)), parameters)
            for part in inside:
                self.assertIn(part, vars(kind), (name, part))

    def test_functions(self):
        for module, name, parameters in FUNCTIONS:
            function = found(module, name)
            self.assertEqual(function.__module__, "bestpapers." + module)
            self.assertEqual(str(inspect.signature(function)), parameters)

    def test_methods(self):
        for module, kind, name, parameters in METHODS:
            method = getattr(found(module, kind), name)
            self.assertEqual(str(inspect.signature(method)), parameters)

    def test_static_methods(self):
        for module, kind, name in STATIC:
            self.assertIsInstance(vars(found(module, kind))[name], staticmethod)

    def test_properties(self):
        for module, kind, name in PROPERTIES:
            self.assertIsInstance(vars(found(module, kind))[name], property)

    def test_generators(self):
        for module, name in GENERATORS:
            self.assertTrue(inspect.isgeneratorfunction(found(module, name)))


if __name__ == "__main__":
    unittest.main()
