"""Point 79: webs."""

import unittest

from bestpapers.errors import BadCount, WrongWidth
from bestpapers.refusals import BadEdge, BadSupply, NoPlace, Unbalanced
from bestpapers.webs import Web
from tests.helpers import HUGE, fault, shape

EDGE = (0, 1, 0, None, 0)


class Webs(unittest.TestCase):
    def check(self, values, kind, **attributes):
        self.assertEqual(fault(Web, *values), (kind, attributes))

    def test_attributes(self):
        for kind in (list, tuple):
            edges = kind([kind([0, 1, 0, 2, 1]), kind([2, 0, 3, None, -7])])
            web = Web(3, edges, kind([5, -2, -3]))
            self.assertEqual((web.places, web.edges, web.supplies), (3, ((0, 1, 0, 2, 1), (2, 0, 3, None, -7)), (5, -2, -3)))
            self.assertEqual(shape(web.edges), ("tuple", [("tuple", ["int"] * 5), ("tuple", ["int"] * 3 + ["NoneType", "int"])]))
            self.assertEqual(shape(web.supplies), ("tuple", ["int"] * 3))

    def test_lists_that_change_later(self):
        edges, supplies = [[0, 1, 0, 2, 1]], [1, -1]
        web = Web(2, edges, supplies)
        edges[0][0] = 1
        edges.append([1, 0, 0, 1, 1])
        supplies[0] = 9
        self.assertEqual((web.edges, web.supplies), (((0, 1, 0, 2, 1),), (1, -1)))

    def test_as_great_as_they_can_be(self):
        for places in (2, 8):
            for many in (1, 16):
                web = Web(places, [(0, places - 1, 1000, 1000, -1000)] * many, [1000] + [0] * (places - 2) + [-1000])
                self.assertEqual((web.places, len(web.edges)), (places, many))
        web = Web(2, [(0, 1, 0, 0, 1000), (1, 0, 1000, None, 0), (1, 0, 0, 1000, 0)], [0, 0])
        self.assertEqual(len(web.edges), 3)

    def test_places(self):
        for places in (-HUGE, -1, 0, 1, 9, HUGE):
            for edges in ([EDGE], [], [(5, 5, 5, 5, 5)]):
                self.check((places, edges, []), BadCount, what="places", many=places)

    def test_edges(self):
        for many in (0, 17, 18):
            self.check((2, [(7, 7, 0, 0, 0)] * many, []), BadCount, what="edges", many=many)

    def test_no_place(self):
        for place in (-1, 3, HUGE):
            self.check((3, [EDGE, (place, 9, -1, 0, 0)], []), NoPlace, place=place)
            self.check((3, [EDGE, (0, place, -1, 0, 0)], []), NoPlace, place=place)

    def test_bad_edges(self):
        for edge in ((1, 1, 0, 1, 1), (0, 1, -1, 1, 1), (0, 1, 1001, None, 1), (0, 1, 1001, 1001, 1), (0, 1, 3, 2, 1), (0, 1, 0, -1, 1),
                     (0, 1, 0, 1001, 1), (0, 1, 0, 1, 1001), (0, 1, 0, 1, -1001), (0, 1, 0, HUGE, 1)):
            self.check((2, [edge], []), BadEdge, at=0)
            self.check((2, [EDGE, EDGE, edge, (5, 5, 5, 5, 5)], []), BadEdge, at=2)

    def test_edge_by_edge(self):
        self.check((2, [(0, 0, 0, 1, 1), (5, 0, 0, 1, 1)], []), BadEdge, at=0)
        self.check((2, [(0, 5, 0, 1, 1), (0, 0, 0, 1, 1)], []), NoPlace, place=5)
        self.check((2, [(4, 5, 0, 1, 1)], []), NoPlace, place=4)

    def test_widths(self):
        for supplies in ((), (HUGE,), (0, 0, HUGE)):
            self.check((2, [EDGE], supplies), WrongWidth, have=len(supplies), need=2)
        self.check((2, [EDGE, (0, 0, 0, 0, 0)], ()), BadEdge, at=1)

    def test_supplies(self):
        for supply in (1001, -1001, HUGE):
            self.check((3, [EDGE], (1000, supply, HUGE)), BadSupply, place=1)
            self.check((3, [EDGE], (0, 0, supply)), BadSupply, place=2)

    def test_unbalanced(self):
        for supplies, total in (((1, 0), 1), ((-1000, 999), -1), ((1000, 1000), 2000), ((0, -5), -5)):
            self.check((2, [EDGE], supplies), Unbalanced, total=total)
        self.assertIsNone(fault(Web, 2, [EDGE], [1000, -1000]))


if __name__ == "__main__":
    unittest.main()
