"""Regions by rings, told in one way only."""

import unittest
from fractions import Fraction

from tests.helper import RegionCase, ask, box, region, rings

SQUARE = [(0, 0), (4, 0), (4, 4), (0, 4)]


class OneRing(RegionCase):
    def test_turning_left(self):
        self.assert_region([rings(0, [0, 0, 4, 0, 4, 4, 0, 4])], [SQUARE])

    def test_turning_right_is_the_same_region(self):
        self.assert_region([rings(0, [0, 4, 4, 4, 4, 0, 0, 0])], [SQUARE])

    def test_every_beginning_and_way_is_the_same_region(self):
        points = [(0, 0), (4, 0), (3, 3), (1, 5)]
        for row in (points, points[::-1]):
            for k in range(4):
                numbers = [number for point in row[k:] + row[:k] for number in point]
                self.assert_region([rings(0, numbers)], [points])

    def test_points_gone_straight_through_are_left_out(self):
        self.assert_region([rings(0, [0, 0, 2, 0, 4, 0, 4, 4, 0, 4])], [SQUARE])
        self.assert_region([rings(0, [2, 0, 4, 0, 4, 4, 2, 4, 0, 4, 0, 3, 0, 1, 0, 0])], [SQUARE])
        self.assert_region([rings(0, [0, 0, 3, 1, 6, 2, 0, 2])], [[(0, 0), (6, 2), (0, 2)]])

    def test_each_region_of_the_six(self):
        for number in range(6):
            self.assert_region([rings(number, [0, 0, 4, 0, 4, 4, 0, 4])], [SQUARE], number)

    def test_new_rings_take_the_place_of_old_ones(self):
        self.assert_region([rings(0, box(0, 0, 9, 9)), rings(0, box(0, 0, 4, 4))], [SQUARE])


class NothingLeft(RegionCase):
    def test_no_rings(self):
        self.assert_region([rings(0)], [])
        self.assert_region([rings(0, box(0, 0, 4, 4)), rings(0)], [])

    def test_all_points_on_one_line(self):
        for row in ([0, 0, 4, 0, 2, 0], [1, 1, 1, 5, 1, 3], [0, 0, 2, 2, 1, 1], [0, 0, 6, 3, 2, 1, 4, 2]):
            self.assert_region([rings(0, row)], [])
        self.assert_region([rings(0, [0, 0, 4, 4, 2, 2], box(0, 0, 4, 4))], [SQUARE])

    def test_gone_round_twice_and_three_times(self):
        triangle = [0, 0, 4, 0, 4, 4]
        self.assert_region([rings(0, triangle * 2)], [])
        self.assert_region([rings(0, triangle * 3)], [[(0, 0), (4, 0), (4, 4)]])

    def test_the_same_ring_twice(self):
        self.assert_region([rings(0, box(0, 0, 4, 4), box(0, 0, 4, 4))], [])
        self.assert_region([rings(0, box(0, 0, 4, 4), [0, 4, 4, 4, 4, 0, 0, 0])], [])

    def test_there_and_back_again(self):
        self.assert_region([rings(0, [0, 0, 4, 0, 4, 4, 6, 6, 4, 4, 0, 4])], [SQUARE])
        self.assert_region([rings(0, [0, 0, 4, 0, 4, 4, 2, 2, 4, 4, 0, 4])], [SQUARE])


class Holes(RegionCase):
    def test_hole(self):
        outer = [(0, 0), (6, 0), (6, 6), (0, 6)]
        hole = [(2, 2), (2, 4), (4, 4), (4, 2)]
        for row in (box(2, 2, 4, 4), [2, 2, 2, 4, 4, 4, 4, 2]):
            self.assert_region([rings(0, box(0, 0, 6, 6), row)], [outer, hole])
            self.assert_region([rings(0, row, box(0, 0, 6, 6))], [outer, hole])

    def test_piece_within_a_hole(self):
        self.assert_region(
            [rings(0, box(3, 3, 5, 5), box(0, 0, 8, 8), box(2, 2, 6, 6))],
            [[(0, 0), (8, 0), (8, 8), (0, 8)], [(2, 2), (2, 6), (6, 6), (6, 2)], [(3, 3), (5, 3), (5, 5), (3, 5)]])

    def test_hole_touches_the_outer_ring_at_its_corner(self):
        self.assert_region(
            [rings(0, box(0, 0, 4, 4), [4, 4, 1, 3, 3, 1])],
            [[(0, 0), (4, 0), (4, 4), (3, 1), (1, 3), (4, 4), (0, 4)]])

    def test_hole_touches_the_outer_ring_along_a_side(self):
        self.assert_region(
            [rings(0, box(0, 0, 4, 4), [0, 2, 2, 1, 2, 3])],
            [[(0, 0), (4, 0), (4, 4), (0, 4), (0, 2), (2, 3), (2, 1), (0, 2)]])

    def test_holes_that_touch_at_a_point_are_one_ring(self):
        self.assert_region(
            [rings(0, box(0, 0, 6, 6), [3, 3, 1, 2, 1, 4], [3, 3, 5, 2, 5, 4])],
            [[(0, 0), (6, 0), (6, 6), (0, 6)], [(1, 2), (1, 4), (3, 3), (5, 4), (5, 2), (3, 3)]])

    def test_hole_that_touches_all_four_sides(self):
        self.assert_region(
            [rings(0, box(0, 0, 4, 4), [2, 0, 4, 2, 2, 4, 0, 2])],
            [[(0, 0), (2, 0), (0, 2)], [(0, 2), (2, 4), (0, 4)], [(2, 0), (4, 0), (4, 2)], [(2, 4), (4, 2), (4, 4)]])


class Crossings(RegionCase):
    def test_ring_that_crosses_itself(self):
        self.assert_region(
            [rings(0, [0, 0, 4, 4, 4, 0, 0, 4])],
            [[(0, 0), (2, 2), (0, 4)], [(2, 2), (4, 0), (4, 4)]])

    def test_crossing_at_a_fraction(self):
        across, up = Fraction(12, 5), Fraction(9, 5)
        self.assert_region(
            [rings(0, [0, 0, 4, 3, 4, 1, 0, 3])],
            [[(0, 0), (across, up), (0, 3)], [(across, up), (4, 1), (4, 3)]])

    def test_five_pointed_star_has_a_hole_of_even_times(self):
        # The middle is gone round twice, so five tips are left.
        got = region(rings(0, [0, 10, -6, -8, 9, 3, -9, 3, 6, -8]))
        self.assertEqual([len(ring) for ring in got], [3] * 5)
        self.assertEqual(got[0][0], (-9, 3))

    def test_rings_that_cross_one_another(self):
        self.assert_region(
            [rings(0, box(0, 0, 2, 2), box(1, 1, 3, 3))],
            [[(0, 0), (2, 0), (2, 1), (1, 1), (1, 2), (0, 2)], [(1, 2), (2, 2), (2, 1), (3, 1), (3, 3), (1, 3)]])

    def test_three_sides_through_one_point(self):
        self.assert_region(
            [rings(0, [0, 0, 4, 4, 4, 6, 0, 2], [0, 4, 4, 0, 4, -2, 0, 2])],
            [[(0, 0), (1, 1), (0, 2)], [(0, 2), (1, 3), (0, 4)], [(1, 1), (4, -2), (4, 0), (2, 2)],
             [(1, 3), (2, 2), (4, 4), (4, 6)]])


class SharedSides(RegionCase):
    def test_whole_side(self):
        self.assert_region([rings(0, box(0, 0, 2, 2), box(2, 0, 4, 2))], [[(0, 0), (4, 0), (4, 2), (0, 2)]])

    def test_parts_of_sides(self):
        self.assert_region(
            [rings(0, box(0, 0, 2, 2), box(2, 1, 4, 3))],
            [[(0, 0), (2, 0), (2, 1), (4, 1), (4, 3), (2, 3), (2, 2), (0, 2)]])

    def test_part_of_a_slanted_side(self):
        self.assert_region(
            [rings(0, [0, 0, 6, 3, 0, 3], [2, 1, 4, 0, 4, 2])],
            [[(0, 0), (2, 1), (4, 0), (4, 2), (6, 3), (0, 3)]])

    def test_hole_at_a_side(self):
        self.assert_region(
            [rings(0, box(0, 0, 4, 4), box(0, 1, 2, 3))],
            [[(0, 0), (4, 0), (4, 4), (0, 4), (0, 3), (2, 3), (2, 1), (0, 1)]])

    def test_ring_along_its_own_side(self):
        self.assert_region([rings(0, [0, 0, 4, 0, 4, 2, 2, 2, 2, 0, 2, 2, 0, 2])], [[(0, 0), (4, 0), (4, 2), (0, 2)]])


class Touching(RegionCase):
    def test_pieces_that_touch_at_corners(self):
        two = [[(0, 0), (2, 0), (2, 2), (0, 2)], [(2, 2), (4, 2), (4, 4), (2, 4)]]
        self.assert_region([rings(0, box(0, 0, 2, 2), box(2, 2, 4, 4))], two)
        self.assert_region([rings(0, [0, 0, 2, 0, 2, 2, 4, 2, 4, 4, 2, 4, 2, 2, 0, 2])], two)
        self.assert_region([rings(0, [0, 0, 2, 0, 2, 4, 4, 4, 4, 2, 0, 2])], two)

    def test_corner_at_the_middle_of_a_side(self):
        self.assert_region(
            [rings(0, box(0, 0, 4, 4), [4, 2, 6, 1, 6, 3])],
            [SQUARE, [(4, 2), (6, 1), (6, 3)]])

    def test_four_pieces_at_one_point(self):
        self.assert_region(
            [rings(0, [0, 0, 3, -1, 3, 1], [0, 0, 1, 3, -1, 3], [0, 0, -3, 1, -3, -1], [0, 0, -1, -3, 1, -3])],
            [[(-3, -1), (0, 0), (-3, 1)], [(-1, -3), (1, -3), (0, 0)], [(-1, 3), (0, 0), (1, 3)],
             [(0, 0), (3, -1), (3, 1)]])


class Order(RegionCase):
    def test_rings_further_left_come_first_and_then_lower_ones(self):
        low, high = [(0, 0), (1, 0), (1, 1), (0, 1)], [(0, 3), (1, 3), (1, 4), (0, 4)]
        left, right = [(-1, 9), (0, 9), (0, 10)], [(2, -5), (3, -5), (3, -4)]
        rows = [[2, -5, 3, -5, 3, -4], box(0, 3, 1, 4), box(0, 0, 1, 1), [-1, 9, 0, 9, 0, 10]]
        for k in range(4):
            self.assert_region([rings(0, *rows[k:], *rows[:k])], [left, low, high, right])

    def test_rings_from_the_same_point_by_the_second_one(self):
        self.assert_region(
            [rings(0, [0, 0, 3, 1, 3, 3], [0, 0, 2, -3, 3, -1])],
            [[(0, 0), (2, -3), (3, -1)], [(0, 0), (3, 1), (3, 3)]])
        self.assert_region(
            [rings(0, [0, 0, 3, -3, 3, -1], [0, 0, 3, 1, 3, 3])],
            [[(0, 0), (3, -3), (3, -1)], [(0, 0), (3, 1), (3, 3)]])

    def test_beginning_at_a_point_that_comes_twice(self):
        self.assert_region(
            [rings(0, box(0, 0, 4, 4), [0, 0, 2, 1, 1, 2])],
            [[(0, 0), (1, 2), (2, 1), (0, 0), (4, 0), (4, 4), (0, 4)]])
        self.assert_region(
            [rings(0, [0, 0, 1, -3, 5, 0, 1, 3], [0, 0, 2, 1, 2, -1])],
            [[(0, 0), (1, -3), (5, 0), (1, 3), (0, 0), (2, 1), (2, -1)]])

    def test_order_of_fractions(self):
        # 7/3 is ahead of 5/2, though its above and its below are both the larger ones.
        near, far = (Fraction(7, 3), Fraction(32, 3)), (Fraction(5, 2), Fraction(1, 2))
        self.assert_region(
            [rings(0, [0, 0, 5, 1, 5, 0, 0, 1], [0, 10, 7, 12, 7, 10, 0, 11])],
            [[(0, 0), far, (0, 1)], [(0, 10), near, (0, 11)], [near, (7, 10), (7, 12)], [far, (5, 0), (5, 1)]])

    def test_counts(self):
        self.assertEqual(ask(rings(0, box(0, 0, 6, 6), [2, 2, 4, 2, 4, 4])), [[2, 7]])


if __name__ == "__main__":
    unittest.main()
