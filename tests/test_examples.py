"""The sessions of the document's examples, as far as their modules are written."""

import unittest

from bestpapers.errors import BadNumber
from bestpapers.fracs import Frac
from bestpapers.tall import Tall
from tests.helpers import fault


class Examples(unittest.TestCase):
    def test_fractions(self):
        found = [str(Frac(-6, 8)), Frac(7, 2) // 2, str(Frac(-7, 2) % 2),
                 Frac(-7, 2).floor(), Frac(-7, 2).ceiling()]
        self.assertEqual(found, ["-3/4", 1, "1/2", -4, -3])

    def test_no_written_form(self):
        self.assertEqual(fault(Frac.read, "2/4"), (BadNumber, {"text": "2/4"}))

    def test_tall_numbers(self):
        found = [Tall((1, -5)) > Tall.plain(1000), (2 * Tall.far(-1)).sign()]
        self.assertEqual(found, [True, -1])


if __name__ == "__main__":
    unittest.main()
