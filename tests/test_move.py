"""Regions moved."""

import unittest
from fractions import Fraction

from tests.helper import BOTH, RegionCase, STAY, box, move, put, region, rings

HOUSE = [0, 0, 4, 0, 4, 2, 0, 6]
HOLED = [box(0, 0, 6, 6), [1, 1, 4, 1, 1, 3]]


class Moves(RegionCase):
    def assert_moved(self, numbers, expected, rows=(HOUSE,)):
        for goal in (0, 5):
            self.assert_region([rings(0, *rows), move(0, goal, *numbers)], expected, goal)

    def test_staying(self):
        self.assert_moved(STAY, [[(0, 0), (4, 0), (4, 2), (0, 6)]])

    def test_shifting(self):
        self.assert_moved((1, 0, 0, 1, -10, 100), [[(-10, 100), (-6, 100), (-6, 102), (-10, 106)]])

    def test_turning(self):
        self.assert_moved((0, -1, 1, 0, 0, 0), [[(-6, 0), (0, 0), (0, 4), (-2, 4)]])
        self.assert_moved((-1, 0, 0, -1, 1, 0), [[(-3, -2), (1, -6), (1, 0), (-3, 0)]])

    def test_mirroring(self):
        self.assert_moved((-1, 0, 0, 1, 0, 0), [[(-4, 0), (0, 0), (0, 6), (-4, 2)]])
        self.assert_moved((1, 0, 0, -1, 0, 0), [[(0, -6), (4, -2), (4, 0), (0, 0)]])
        self.assert_moved((0, 1, 1, 0, 0, 0), [[(0, 0), (6, 0), (2, 4), (0, 4)]])

    def test_stretching(self):
        self.assert_moved((2, 0, 0, 100, 0, 0), [[(0, 0), (8, 0), (8, 200), (0, 600)]])

    def test_shearing(self):
        self.assert_moved((1, 1, 0, 1, 0, 0), [[(0, 0), (4, 0), (6, 2), (6, 6)]])
        self.assert_moved((1, 0, -2, 1, 0, 0), [[(0, 0), (4, -8), (4, -6), (0, 6)]])

    def test_all_six_numbers(self):
        # x, y goes to 2x + 3y + 5, 7x + 11y + 13.
        self.assert_moved((2, 3, 7, 11, 5, 13), [[(5, 13), (13, 41), (19, 63), (23, 79)]])

    def test_with_holes(self):
        self.assert_moved(
            (1, 0, 0, 1, 1, 1), [[(1, 1), (7, 1), (7, 7), (1, 7)], [(2, 2), (2, 4), (5, 2)]], HOLED)
        self.assert_moved(
            (-1, 0, 0, 1, 0, 0), [[(-6, 0), (0, 0), (0, 6), (-6, 6)], [(-4, 1), (-1, 3), (-1, 1)]], HOLED)
        self.assert_moved(
            (0, -1, 1, 0, 0, 0), [[(-6, 0), (0, 0), (0, 6), (-6, 6)], [(-3, 1), (-1, 4), (-1, 1)]], HOLED)

    def test_order_of_rings_and_beginnings_anew(self):
        rows = (box(0, 0, 1, 1), [5, 0, 6, 0, 6, 2])
        self.assert_moved((-1, 0, 0, 1, 0, 0), [[(-6, 0), (-5, 0), (-6, 2)], [(-1, 0), (0, 0), (0, 1), (-1, 1)]], rows)

    def test_touching_at_points_mirrored(self):
        self.assert_moved(
            (-1, 0, 0, 1, 0, 0), [[(-4, 2), (-2, 2), (-2, 4), (-4, 4)], [(-2, 0), (0, 0), (0, 2), (-2, 2)]],
            (box(0, 0, 2, 2), box(2, 2, 4, 4)))
        self.assert_moved(
            (-1, 0, 0, 1, 0, 0), [[(-4, 0), (0, 0), (0, 2), (-2, 1), (-2, 3), (0, 2), (0, 4), (-4, 4)]],
            (box(0, 0, 4, 4), [0, 2, 2, 1, 2, 3]))

    def test_without_rings(self):
        self.assert_moved((2, 0, 0, 2, 1, 1), [], ())
        self.assert_region([rings(1, HOUSE), move(0, 1, *STAY)], [], 1)


class FractionsMoved(RegionCase):
    CALLS = [rings(0, [0, 0, 3, 0, 0, 1]), rings(1, [0, 0, 2, 1, 0, 1]), put(BOTH, 0, 1, 0)]

    def test_fractions(self):
        self.assertEqual(region(*self.CALLS), [[(0, 0), (Fraction(6, 5), Fraction(3, 5)), (0, 1)]])
        self.assert_region(
            self.CALLS + [move(0, 2, 1, 0, 0, 1, -2, 0)],
            [[(-2, 0), (Fraction(-4, 5), Fraction(3, 5)), (-2, 1)]], 2)
        self.assert_region(self.CALLS + [move(0, 0, 5, 0, 0, 5, 0, 0)], [[(0, 0), (6, 3), (0, 5)]])
        self.assert_region(
            self.CALLS + [move(0, 0, -1, 0, 0, 1, 0, 0)],
            [[(Fraction(-6, 5), Fraction(3, 5)), (0, 0), (0, 1)]])

    def test_the_source_stays(self):
        calls = self.CALLS + [move(0, 1, 0, -1, 1, 0, 7, 7)]
        self.assertEqual(region(*calls), region(*self.CALLS))

    def test_there_and_back(self):
        calls = [rings(0, *HOLED), move(0, 1, 2, 1, 1, 1, 3, -4), move(1, 1, 1, -1, -1, 2, -7, 11)]
        self.assertEqual(region(*calls, number=1), region(rings(0, *HOLED)))


if __name__ == "__main__":
    unittest.main()
