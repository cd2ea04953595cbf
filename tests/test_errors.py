"""Point 5: the errors, their base, and their attributes."""

import inspect
import unittest

from bestpapers import errors, refusals
from bestpapers.errors import BestError

ERRORS = {
    "DivisionByZero": (), "BadNumber": ("text",), "BadCount": ("what", "many"),
    "UnlikeParts": ("left", "right"), "BadName": ("name",), "NoEnd": ("name",),
    "Crossed": ("name",), "NotWhole": ("name",), "BadPull": ("name",),
    "BadSense": ("sense",), "SameName": ("name",), "TooWide": ("width", "many"),
    "WrongWidth": ("have", "need"), "NoName": ("name",), "NoItem": ("at",),
    "NoSplit": ("variable", "k"), "NoAim": ("aim",), "UnlikeAims": ("left", "right"),
    "BadFactor": (), "BadOrder": ("order",), "BadText": ("line",), "Unfit": (),
    "NotAllWhole": (), "BadPaper": ("place",),
}
REFUSALS = {
    "Dependent": ("at",), "BadHeld": ("chosen",), "NoStage": ("stage",),
    "NotHeld": ("at",), "IsHeld": ("at",), "TooMany": ("many", "most"),
    "NotFeasible": (), "NotStuck": (), "NotEnded": (), "BadSides": ("sides",),
    "IsWhole": ("name",), "NoTold": ("kind",), "NoCut": ("variable",), "NoFloor": (),
    "Decided": (), "NotEmpty": (), "NoPlace": ("place",), "BadEdge": ("at",),
    "BadSupply": ("place",), "Unbalanced": ("total",), "SamePlace": ("place",),
    "HasLow": ("at",), "BadTable": (), "BadCommand": ("text",), "NoAnswer": (),
    "NothingToUndo": (), "NothingToRedo": (),
}
STRINGS = ("text", "what", "name", "sense", "kind")
TUPLES = ("chosen", "sides", "order")


def sample_value(name, at):
    if name in STRINGS:
        return f"word{at}"
    if name in TUPLES:
        return (3, 1, at)
    return 7 + at


class Errors(unittest.TestCase):
    def defined(self, module):
        return {
            name: kind
            for name, kind in inspect.getmembers(module, inspect.isclass)
            if kind.__module__ == module.__name__ and kind is not BestError
        }

    def check_module(self, module, listed):
        found = self.defined(module)
        self.assertEqual(sorted(found), sorted(listed))
        for name, attributes in listed.items():
            kind = found[name]
            self.assertEqual(kind.__bases__, (BestError,), name)
            values = [sample_value(key, at) for at, key in enumerate(attributes)]
            self.assertEqual(vars(kind(*values)), dict(zip(attributes, values)), name)
            named = kind(**dict(zip(attributes, values)))
            self.assertEqual(vars(named), dict(zip(attributes, values)), name)

    def test_base(self):
        self.assertEqual(BestError.__bases__, (ValueError,))
        self.assertEqual(BestError.__module__, "bestpapers.errors")

    def test_errors(self):
        self.check_module(errors, ERRORS)

    def test_refusals(self):
        self.check_module(refusals, REFUSALS)

    def test_no_list_is_kept(self):
        for kind, name in (
            (errors.BadOrder, "order"),
            (refusals.BadHeld, "chosen"),
            (refusals.BadSides, "sides"),
        ):
            passed = [2, 0, 0]
            error = kind(passed)
            passed.append(9)
            self.assertEqual(vars(error), {name: (2, 0, 0)})

    def test_caught_as_value_error(self):
        with self.assertRaises(ValueError):
            raise refusals.NoFloor()


if __name__ == "__main__":
    unittest.main()
