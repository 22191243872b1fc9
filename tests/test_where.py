"""Where points are in a region."""

import unittest

from tests.helper import BOTH, RegionCase, ask, box, move, put, rings, tells, where

ELSEWHERE, ON_A_SIDE, INSIDE = range(3)
DIAMOND = [0, 4, 4, 0, 8, 4, 4, 8]
HOLED = [box(0, 0, 9, 9), box(3, 3, 6, 6)]
CORNERED = [0, 0, 4, 0, 4, 2, 2, 2, 2, 4, 0, 4]
# A crown: two low corners of its upper border lie within its width.
CROWN = [0, 0, 8, 0, 8, 6, 6, 3, 4, 6, 2, 3, 0, 6]


class WhereCase(RegionCase):
    def assert_where(self, expected, rows, *points):
        """That points, told by two whole numbers or by four, are somewhere in a region by rings.

        So are they when the region is mirrored and turned, which makes other sides those that go upwards.
        """
        for point in points:
            told = point if len(point) == 4 else (point[0], 1, point[1], 1)
            self.assert_asked([expected], where(0, *told), [rings(0, *rows)])
            for a, b, c, d in ((-1, 0, 0, 1), (1, 0, 0, -1), (0, 1, 1, 0), (0, -1, 1, 0)):
                moved = [a * told[0], told[1], d * told[2], told[3]]
                if a == 0:
                    moved = [b * told[2], told[3], c * told[0], told[1]]
                got = ask(rings(0, *rows), move(0, 3, a, b, c, d, 0, 0), where(3, *moved))
                self.assertEqual(got[-1], [expected], (rows, point, (a, b, c, d)))


class Places(WhereCase):
    def test_inside(self):
        self.assert_where(INSIDE, [box(0, 0, 4, 4)], (1, 1), (2, 2), (3, 1), (1, 3))
        self.assert_where(INSIDE, [DIAMOND], (4, 4), (2, 3), (5, 6), (6, 3))
        self.assert_where(INSIDE, HOLED, (1, 1), (2, 4), (4, 7), (8, 8))

    def test_outside(self):
        self.assert_where(ELSEWHERE, [box(0, 0, 4, 4)], (5, 2), (-1, 2), (2, 5), (2, -1), (9, 9))
        self.assert_where(ELSEWHERE, [DIAMOND], (1, 1), (7, 7), (1, 7), (7, 1))

    def test_in_a_hole(self):
        self.assert_where(ELSEWHERE, HOLED, (4, 4), (5, 4), (4, 5), (9, 2, 9, 2))

    def test_on_a_side(self):
        self.assert_where(ON_A_SIDE, [box(0, 0, 4, 4)], (2, 0), (4, 1), (3, 4), (0, 2), (1, 1000, 0, 1))
        self.assert_where(ON_A_SIDE, [DIAMOND], (1, 3), (5, 1), (7, 5), (2, 6), (1, 2, 7, 2))

    def test_on_a_corner(self):
        self.assert_where(ON_A_SIDE, [box(0, 0, 4, 4)], (0, 0), (4, 0), (4, 4), (0, 4))
        self.assert_where(ON_A_SIDE, [DIAMOND], (0, 4), (4, 0), (8, 4), (4, 8))

    def test_on_a_side_or_corner_of_a_hole(self):
        self.assert_where(ON_A_SIDE, HOLED, (4, 3), (6, 5), (5, 6), (3, 4))
        self.assert_where(ON_A_SIDE, HOLED, (3, 3), (6, 3), (6, 6), (3, 6))
        self.assert_where(ON_A_SIDE, [box(-1, -1, 9, 9), DIAMOND], (1, 3), (0, 4), (4, 8), (7, 3))

    def test_at_the_height_of_a_corner_and_straight_above_or_below(self):
        self.assert_where(INSIDE, [DIAMOND], (1, 4), (7, 4), (4, 1), (4, 7))
        self.assert_where(ELSEWHERE, [DIAMOND], (-1, 4), (9, 4), (4, -1), (4, 9))
        self.assert_where(ELSEWHERE, [DIAMOND], (0, 3), (0, 5), (8, 1), (8, 9), (1, 0), (7, 8), (0, 0), (8, 8))

    def test_at_the_height_of_a_corner_that_goes_in(self):
        self.assert_where(INSIDE, [CROWN], (1, 3), (4, 3), (7, 3), (2, 1), (6, 2), (4, 5), (1, 4))
        self.assert_where(ELSEWHERE, [CROWN], (-1, 3), (9, 3), (2, 4), (6, 5), (2, 6), (6, 6), (2, -1), (4, 7))
        self.assert_where(ELSEWHERE, [CROWN], (-1, 6), (9, 6), (1, 6), (5, 6), (0, 7), (8, 7), (0, -1), (8, -2))

    def test_at_the_height_of_a_hole(self):
        holed = [box(-2, -2, 10, 10), DIAMOND]
        self.assert_where(INSIDE, holed, (-1, 4), (9, 4), (4, -1), (4, 9), (0, 3), (0, 5), (8, 0), (8, 8))
        self.assert_where(ELSEWHERE, holed, (1, 4), (7, 4), (4, 1), (4, 7))
        self.assert_where(INSIDE, HOLED, (1, 3), (8, 3), (3, 1), (3, 8), (6, 1), (6, 7), (2, 6), (7, 6))

    def test_on_the_line_of_a_side_beyond_its_end(self):
        self.assert_where(ELSEWHERE, [box(0, 0, 4, 4)], (5, 0), (-1, 0), (0, 5), (0, -1), (4, 6), (4, -2), (-3, 4))
        self.assert_where(ELSEWHERE, [DIAMOND], (-1, 5), (5, -1), (9, 5), (3, -1), (9, 3), (3, 9), (-1, 3))
        self.assert_where(INSIDE, [CORNERED], (1, 2), (2, 1))
        self.assert_where(ELSEWHERE, [CORNERED], (5, 2), (2, 5), (4, 3), (3, 4))
        self.assert_where(INSIDE, HOLED, (2, 3), (7, 3), (3, 2), (3, 7), (6, 8), (8, 6))
        self.assert_where(INSIDE, [box(-2, -2, 10, 10), DIAMOND], (-1, 5), (5, -1), (9, 3), (3, 9))
        self.assert_where(ELSEWHERE, [[0, 0, 6, 3, 0, 3]], (8, 4), (-2, -1), (1000, 1, 500, 1))


class Fractions(WhereCase):
    def test_something_in_common(self):
        self.assert_where(ON_A_SIDE, [box(0, 0, 4, 4)], (2, 4, 0, 1), (2, 4, 0, 1000), (0, 6, 4, 8), (8, 2, 12, 3))
        self.assert_where(INSIDE, [box(0, 0, 4, 4)], (2, 4, 2, 4), (6, 4, 10, 4), (1000, 1000, 999, 333))
        self.assert_where(ELSEWHERE, [box(0, 0, 4, 4)], (-2, 4, 2, 4), (18, 4, 2, 4), (0, 5, 10, 2))
        for numbers in ((1, 2, 7, 2), (2, 4, 7, 2), (1, 2, 14, 4), (500, 1000, 3500, 1000)):
            self.assert_where(ON_A_SIDE, [DIAMOND], numbers)

    def test_across_and_up_have_each_their_own_below(self):
        # The long side goes through 2/5, 1/5 and through 3/2, 3/4.
        self.assert_where(ON_A_SIDE, [[0, 0, 6, 3, 0, 3]], (2, 5, 1, 5), (3, 2, 3, 4), (2, 3, 1, 3), (1, 1, 1, 2))
        self.assert_where(INSIDE, [[0, 0, 6, 3, 0, 3]], (3, 2, 4, 5), (2, 3, 1, 2))
        self.assert_where(ELSEWHERE, [[0, 0, 6, 3, 0, 3]], (3, 2, 2, 3), (1, 2, 1, 5))

    def test_just_beside_a_side(self):
        self.assert_where(INSIDE, [box(0, 0, 4, 4)], (1, 1000, 1, 1), (3999, 1000, 1, 1), (2, 1, 3999, 1000))
        self.assert_where(ELSEWHERE, [box(0, 0, 4, 4)], (-1, 1000, 1, 1), (4001, 1000, 1, 1), (2, 1, -1, 1000))
        slanted = [[0, 0, 100, 99, 0, 100]]
        self.assert_where(ON_A_SIDE, slanted, (50, 1, 99, 2), (1, 1, 99, 100))
        self.assert_where(INSIDE, slanted, (50, 1, 49501, 1000), (1, 1, 991, 1000))
        self.assert_where(ELSEWHERE, slanted, (50, 1, 49499, 1000), (1, 1, 989, 1000))

    def test_corners_that_are_fractions(self):
        calls = [rings(0, [0, 0, 3, 0, 0, 1]), rings(1, [0, 0, 2, 1, 0, 1]), put(BOTH, 0, 1, 2)]
        # A triangle with the corner 6/5, 3/5.
        for expected, point in (
                (1, (6, 5, 3, 5)), (1, (12, 10, 600, 1000)), (1, (3, 5, 3, 10)), (1, (0, 1, 1, 2)), (1, (3, 5, 4, 5)),
                (2, (3, 5, 3, 5)), (2, (1199, 1000, 600, 1000)), (0, (1201, 1000, 600, 1000)), (0, (6, 5, 4, 5)),
                (0, (6, 5, 2, 5)), (0, (7, 5, 3, 5)), (0, (9, 5, 2, 5)), (0, (-1, 5, 3, 5))):
            self.assert_asked([expected], where(2, *point), calls)
        mirrored = calls + [move(2, 2, -5, 0, 0, 5, 0, 0)]
        for expected, point in ((1, (-6, 1, 3, 1)), (2, (-11, 2, 3, 1)), (0, (-7, 1, 3, 1)), (0, (6, 1, 3, 1))):
            self.assert_asked([expected], where(2, *point), mirrored)

    def test_far_out(self):
        far = [rings(0, box(-100, -100, 100, 100)), move(0, 0, 100, 0, 0, 100, 0, 0), move(0, 0, 10, 0, 0, 10, 0, 0)]
        for x in (-100000, 100000):
            self.assert_asked([1], where(0, x, 1, x, 1), far)
            self.assert_asked([1], where(0, x, 1, 7, 1), far)
            self.assert_asked([1], where(0, 7, 1, x, 1), far)
            self.assert_asked([2], where(0, x, 2, x, 1000), far)
            self.assert_asked([0], where(0, x, 1, x, 1), [rings(0, box(-100, -100, 100, 100))])


class SeveralRings(WhereCase):
    def test_without_rings(self):
        for number in range(6):
            self.assertEqual(ask(where(number, 0, 1, 0, 1)), [[0]])
            self.assertEqual(ask(where(number, -7, 3, 100000, 1000)), [[0]])
        flat = [0, 0, 4, 0, 2, 0]
        self.assert_where(ELSEWHERE, [flat], (0, 0), (1, 0), (2, 0), (3, 1))

    def test_several_pieces(self):
        rows = [box(0, 0, 2, 2), box(5, 0, 7, 2), [0, 5, 7, 5, 0, 9]]
        self.assert_where(INSIDE, rows, (1, 1), (6, 1), (1, 6))
        self.assert_where(ELSEWHERE, rows, (3, 1), (4, 0), (4, 2), (1, 3), (6, 4), (6, 7), (8, 5))
        self.assert_where(ON_A_SIDE, rows, (2, 2), (5, 1), (7, 5), (3, 5), (0, 7))

    def test_a_piece_within_a_hole(self):
        rows = [box(0, 0, 10, 10), box(2, 2, 8, 8), box(4, 4, 6, 6)]
        self.assert_where(INSIDE, rows, (1, 5), (5, 5), (9, 4), (5, 1))
        self.assert_where(ELSEWHERE, rows, (3, 5), (3, 4), (7, 6), (5, 7), (11, 5))
        self.assert_where(ON_A_SIDE, rows, (0, 5), (2, 5), (4, 5), (6, 6), (8, 4), (10, 6))

    def test_pieces_that_touch(self):
        rows = [box(0, 0, 2, 2), box(2, 2, 4, 4)]
        self.assert_where(ON_A_SIDE, rows, (2, 2))
        self.assert_where(INSIDE, rows, (1, 1), (3, 3))
        self.assert_where(ELSEWHERE, rows, (1, 3), (3, 1))

    def test_a_hole_that_touches_the_outer_ring(self):
        rows = [box(0, 0, 4, 4), [0, 2, 2, 1, 2, 3]]
        self.assert_where(ON_A_SIDE, rows, (0, 2), (0, 1), (2, 2), (1, 1, 3, 2))
        self.assert_where(ELSEWHERE, rows, (1, 2), (-1, 2))
        self.assert_where(INSIDE, rows, (1, 1), (1, 3), (3, 2))

    def test_sides_that_part_nothing_are_no_sides(self):
        self.assert_where(INSIDE, [box(0, 0, 2, 2), box(2, 0, 4, 2)], (2, 1))
        self.assert_where(INSIDE, [box(0, 0, 4, 4), [1, 1, 3, 3, 2, 2]], (1, 1), (2, 2), (3, 3))
        self.assert_where(ELSEWHERE, [box(0, 0, 4, 4), box(0, 0, 4, 4)], (0, 0), (2, 2), (4, 1))
        self.assert_where(ON_A_SIDE, [box(0, 0, 2, 2), box(2, 0, 4, 2)], (2, 0), (2, 2))

    def test_gone_round_three_times_is_inside(self):
        self.assert_where(INSIDE, [[0, 0, 4, 0, 4, 4] * 3], (3, 1))
        self.assert_where(ELSEWHERE, [[0, 0, 4, 0, 4, 4] * 2], (3, 1), (2, 0))


class AmongOthers(WhereCase):
    def test_between_other_calls(self):
        got = ask(
            where(0, 1, 1, 1, 1), rings(0, box(0, 0, 2, 2)), where(0, 1, 1, 1, 1), rings(0, [0, 0]),
            where(0, 1, 1, 1, 1), move(0, 0, 1, 0, 0, 1, 1, 0), where(0, 1, 1, 1, 1), put(BOTH, 0, 1, 0),
            where(0, 1, 1, 1, 1), tells(0), where(0, 1, 0, 1, 1), where(0, 3, 2, 1, 1))
        self.assertEqual(got, [[0], [1, 4], [2], [-1], [2], [1, 4], [1], [0, 0], [0], [0], [-4], [0]])

    def test_each_of_the_six(self):
        calls = [rings(number, box(0, 0, number + 1, 2)) for number in range(6)]
        got = ask(*calls, *[where(number, 3, 1, 1, 1) for number in range(6)])
        self.assertEqual(got[6:], [[0], [0], [1], [2], [2], [2]])


if __name__ == "__main__":
    unittest.main()
