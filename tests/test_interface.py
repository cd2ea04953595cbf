"""The interface: what is defined where, with which parameters."""

import importlib
import inspect
import unittest

PLAIN = ("str", "bool", "abs", "neg")
SUMS = ("add", "radd", "sub", "rsub", "mul", "rmul", "floordiv", "rfloordiv", "mod", "rmod")
COMPARISONS = ("eq", "ne", "lt", "le", "gt", "ge")
TALL = ("bool", "neg", "add", "sub", "mul", "rmul")


def operators(*names):
    return [f"__{name}__" for name in names]


# Module, class, its parameters, and what must stand in the class itself.
CLASSES = (
    ("fracs", "Frac", "(num=0, den=1)",
     ["MOST_FIGURES", "read", "over", "floor", "ceiling", "is_whole"]
     + operators("pow", *PLAIN, *SUMS, *COMPARISONS)),
    ("tall", "Tall", "(parts)",
     ["plain", "far", "over", "sign"] + operators(*TALL, *COMPARISONS)),
    ("variables", "Variable", "(name, low=0, high=None, *, whole=False, pull=None)", []),
    ("rows", "Sum", "(coefficients)", ["amount"]),
    ("rows", "Row", "(name, coefficients, sense, right)", ["__call__"]),
    ("rows", "Aim", "(sense, coefficients, constant=0)", ["amount"]),
    ("problems", "Problem", "(variables, rows=(), aims=())",
     ["MOST_VARIABLES", "MOST_ROWS", "MOST_AIMS", "MOST_SPREAD", "MOST_ASSIGNMENTS",
      "spread", "assignments"] + operators("contains", "getitem", "iter")),
)
FUNCTIONS = (
    ("itemrows", "item_row", "(problem, at)"),
    ("itemrows", "item_box", "(problem, at)"),
    ("itemrows", "item_name", "(problem, at)"),
    ("itemrows", "item_value", "(problem, at, point)"),
    ("points", "broken", "(problem, point)"),
    ("points", "is_feasible", "(problem, point)"),
    ("points", "aim_values", "(problem, point)"),
)
METHODS = (
    ("fracs", "Frac", "over", "(self, other)"),
    ("fracs", "Frac", "floor", "(self)"),
    ("fracs", "Frac", "ceiling", "(self)"),
    ("fracs", "Frac", "read", "(text)"),
    ("tall", "Tall", "over", "(self, number)"),
    ("tall", "Tall", "sign", "(self)"),
    ("tall", "Tall", "plain", "(number)"),
    ("tall", "Tall", "far", "(number)"),
    ("rows", "Sum", "amount", "(self, point)"),
    ("rows", "Aim", "amount", "(self, point)"),
    ("rows", "Row", "__call__", "(self, point)"),
)
STATIC = (("fracs", "Frac", "read"), ("tall", "Tall", "plain"), ("tall", "Tall", "far"))
PROPERTIES = (("fracs", "Frac", "is_whole"), ("problems", "Problem", "spread"),
              ("problems", "Problem", "assignments"))


def found(module, name):
    return getattr(importlib.import_module("bestpapers." + module), name)


class Interface(unittest.TestCase):
    def test_classes(self):
        for module, name, parameters, inside in CLASSES:
            kind = found(module, name)
            self.assertEqual(kind.__module__, "bestpapers." + module)
            self.assertEqual(str(inspect.signature(kind)), parameters)
            for part in inside:
                self.assertIn(part, vars(kind), (name, part))

    def test_functions(self):
        for module, name, parameters in FUNCTIONS:
            function = found(module, name)
            self.assertEqual(function.__module__, "bestpapers." + module)
            self.assertEqual(str(inspect.signature(function)), parameters)

    def test_methods(self):
        for module, kind, name, parameters in METHODS:
            method = getattr(found(module, kind), name)
            self.assertEqual(str(inspect.signature(method)), parameters)

    def test_static_methods(self):
        for module, kind, name in STATIC:
            self.assertIsInstance(vars(found(module, kind))[name], staticmethod)

    def test_properties(self):
        for module, kind, name in PROPERTIES:
            self.assertIsInstance(vars(found(module, kind))[name], property)


if __name__ == "__main__":
    unittest.main()
