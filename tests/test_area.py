"""How many pieces a region has, and its area."""

import unittest
from fractions import Fraction

from tests.helper import (BOTH, EITHER, FIRST_ALONE, JUST_ONE, RegionCase, area, ask, box, compare, move, put, rings,
                          tells, where)

HOLED = [box(0, 0, 6, 6), box(2, 2, 4, 4)]
ACROSS, UP = [0, 0, 3, 0, 0, 1], [0, 0, 2, 1, 0, 1]


class AreaCase(RegionCase):
    def assert_area(self, calls, pieces, above, below=1, number=0):
        self.assert_asked([pieces, above, below], area(number), calls)

    def assert_drawn(self, rows, pieces, above, below=1):
        """What a region by rings has, in whichever order and way they are drawn and wherever it lies."""
        turned = [[row[k + j] for k in range(len(row) - 2, -2, -2) for j in (0, 1)] for row in rows]
        for drawn in (rows, rows[::-1], turned):
            self.assert_area([rings(0, *drawn)], pieces, above, below)
            self.assert_area([rings(4, *drawn), move(4, 1, 1, 0, 0, 1, -90, -70)], pieces, above, below, 1)


class Pieces(AreaCase):
    def test_no_rings(self):
        for number in range(6):
            self.assert_area([rings((number + 1) % 6, box(0, 0, 4, 4))], 0, 0, 1, number)
        self.assert_area([rings(0)], 0, 0)
        self.assert_area([rings(0, [0, 0, 1, 1, 2, 2])], 0, 0)
        self.assert_area([rings(0, box(0, 0, 4, 4)), rings(0)], 0, 0)
        self.assert_area([rings(0, box(0, 0, 4, 4)), put(FIRST_ALONE, 0, 0, 0)], 0, 0)

    def test_one_piece(self):
        self.assert_drawn([box(0, 0, 4, 3)], 1, 12)
        self.assert_drawn([[0, 0, 4, 0, 4, 2, 2, 2, 2, 4, 0, 4]], 1, 12)
        self.assert_drawn([[0, 0, 2, 0, 4, 0, 4, 3, 0, 3, 0, 1]], 1, 12)

    def test_a_piece_with_holes(self):
        self.assert_drawn(HOLED, 1, 32)
        self.assert_drawn([box(0, 0, 9, 9), box(1, 1, 3, 4), box(5, 1, 8, 8)], 1, 54)
        self.assert_drawn([box(0, 0, 9, 9), [1, 1, 3, 1, 1, 3], [5, 5, 6, 5, 5, 7]], 1, 78)

    def test_several_pieces(self):
        self.assert_drawn([box(0, 0, 2, 2), box(5, 0, 7, 3)], 2, 10)
        self.assert_drawn([box(0, 0, 2, 2), box(5, 0, 7, 3), box(0, 9, 1, 10), box(8, 8, 12, 12)], 4, 27)
        self.assert_drawn([*HOLED, box(7, 0, 10, 9), box(8, 1, 9, 2)], 2, 58)

    def test_pieces_that_touch_at_a_point(self):
        self.assert_drawn([box(0, 0, 2, 2), box(2, 2, 4, 4)], 2, 8)
        self.assert_drawn([box(0, 0, 4, 4), [4, 2, 6, 1, 6, 3]], 2, 18)
        self.assert_drawn([[0, 0, 4, 4, 4, 0, 0, 4]], 2, 8)

    def test_pieces_with_a_side_in_common_are_one(self):
        self.assert_drawn([box(0, 0, 2, 2), box(2, 1, 4, 3)], 1, 8)

    def test_a_hole_that_touches_the_outer_ring(self):
        self.assert_drawn([box(0, 0, 4, 4), [4, 4, 1, 3, 3, 1]], 1, 12)
        self.assert_drawn([box(0, 0, 4, 4), [0, 2, 2, 1, 2, 3]], 1, 14)
        self.assert_drawn([box(0, 0, 4, 4), box(0, 1, 2, 3)], 1, 12)

    def test_a_hole_that_touches_at_two_points_parts_the_piece(self):
        self.assert_drawn([box(0, 0, 4, 4), [0, 2, 2, 1, 4, 2, 2, 3]], 2, 12)
        self.assert_drawn([box(0, 0, 4, 4), [2, 0, 4, 2, 2, 4, 0, 2]], 4, 8)

    def test_holes_that_touch_at_a_point(self):
        self.assert_drawn([box(0, 0, 6, 6), [3, 3, 1, 2, 1, 4], [3, 3, 5, 2, 5, 4]], 1, 32)

    def test_a_piece_within_a_hole(self):
        self.assert_drawn([box(0, 0, 8, 8), box(2, 2, 6, 6), box(3, 3, 5, 5)], 2, 52)
        self.assert_drawn([box(0, 0, 8, 8), box(1, 1, 7, 7), box(2, 2, 6, 6), box(3, 3, 5, 5)], 2, 40)

    def test_a_piece_within_a_hole_that_touches_it(self):
        self.assert_drawn([box(0, 0, 8, 8), box(2, 2, 6, 6), [2, 4, 4, 3, 4, 5]], 2, 50)
        self.assert_drawn([box(0, 0, 8, 8), box(2, 2, 6, 6), [2, 2, 4, 3, 3, 4]], 2, 99, 2)


class Fractions(AreaCase):
    def test_halves(self):
        self.assert_drawn([[0, 0, 1, 0, 0, 1]], 1, 1, 2)
        self.assert_drawn([[0, 0, 3, 1, 1, 2]], 1, 5, 2)
        self.assert_drawn([[0, 0, 3, 1, 1, 2], [5, 5, 6, 5, 5, 6]], 2, 3)

    def test_other_fractions(self):
        # The crossing is at 12/5 across: a triangle of 3 high and 12/5 wide, one of 2 high and 8/5 wide.
        self.assert_drawn([[0, 0, 4, 3, 4, 1, 0, 3]], 2, 26, 5)
        self.assert_area([rings(0, ACROSS), rings(1, UP), put(BOTH, 0, 1, 2)], 1, 3, 5, 2)
        self.assert_area([rings(0, ACROSS), rings(1, UP), put(FIRST_ALONE, 0, 1, 2)], 1, 9, 10, 2)

    def test_a_hole_told_by_fractions(self):
        calls = [rings(0, ACROSS), rings(1, UP), put(BOTH, 0, 1, 2), rings(3, box(-1, -1, 4, 4))]
        self.assert_area(calls + [put(JUST_ONE, 2, 3, 2)], 1, 122, 5, 2)

    def test_the_largest_and_the_smallest(self):
        self.assert_drawn([box(-10, -30, 100, 100)], 1, 14300)
        self.assert_area([rings(0, box(-100, -100, 100, 100))], 1, 40000)
        wide = [rings(0, box(0, 0, 100, 100))] + [move(0, 0, 100, 0, 0, 100, 0, 0)] * 5
        self.assert_area(wide, 1, 10 ** 24)
        # The long side is at -1 + h / 10^12 across at height h, so a small triangle is left below height 1.
        steep = [rings(0, [-1, 0, 0, 0, 0, 100])] + [move(0, 0, 1, 0, 0, 100, 0, 0)] * 5
        calls = steep + [rings(1, box(-1, 0, 0, 1)), put(FIRST_ALONE, 1, 0, 2)]
        self.assert_area(calls, 1, 1, 2 * 10 ** 12, 2)


class Moved(AreaCase):
    def test_mirrored(self):
        for mirror in ((-1, 0, 0, 1), (1, 0, 0, -1), (0, 1, 1, 0), (0, -1, -1, 0)):
            numbers = (*mirror, 3, -5)
            self.assert_area([rings(0, *HOLED), move(0, 1, *numbers)], 1, 32, 1, 1)
            self.assert_area([rings(0, box(0, 0, 2, 2), box(2, 2, 4, 4)), move(0, 0, *numbers)], 2, 8)
            self.assert_area([rings(0, box(0, 0, 4, 4), [4, 4, 1, 3, 3, 1]), move(0, 0, *numbers)], 1, 12)
            self.assert_area([rings(0, box(0, 0, 8, 8), box(2, 2, 6, 6), box(3, 3, 5, 5)), move(0, 0, *numbers)], 2, 52)

    def test_mirrored_fractions(self):
        calls = [rings(0, ACROSS), rings(1, UP), put(BOTH, 0, 1, 2)]
        self.assert_area(calls + [move(2, 2, -1, 0, 0, 1, 0, 0)], 1, 3, 5, 2)
        self.assert_area(calls + [move(2, 2, 0, 2, 3, 0, 50, -7)], 1, 18, 5, 2)

    def test_stretched(self):
        # An area grows as a * d - b * c does, whichever way that goes.
        for numbers in ((2, 3, 7, 11), (2, 0, 0, 3), (3, 1, 1, 2), (-3, 5, 2, 4)):
            factor = abs(numbers[0] * numbers[3] - numbers[1] * numbers[2])
            self.assert_area([rings(0, *HOLED), move(0, 0, *numbers, 1, 1)], 1, 32 * factor)


class AddUp(AreaCase):
    def test_areas_add_up(self):
        drawings = [
            ([box(0, 0, 4, 4)], [box(2, 2, 6, 6)]),
            (HOLED, [[1, 1, 5, 2, 3, 7]]),
            ([ACROSS], [UP]),
            ([[0, 0, 4, 3, 4, 1, 0, 3]], [[-1, 1, 1, 1, 1, 5]])]
        for one, other in drawings:
            calls = [rings(0, *one), rings(1, *other)]
            sizes = []
            for kind in range(4):
                got = ask(*calls, area(0), area(1), put(kind, 0, 1, 2), area(2))
                self.assertNotEqual(got[-2], [-2])
                sizes.append(Fraction(*got[-1][1:]))
            first, second = Fraction(*got[2][1:]), Fraction(*got[3][1:])
            self.assertEqual(sizes[EITHER] + sizes[BOTH], first + second)
            self.assertEqual(sizes[FIRST_ALONE] + sizes[BOTH], first)
            self.assertEqual(sizes[JUST_ONE] + sizes[BOTH], sizes[EITHER])
            self.assertGreater(sizes[BOTH], 0)


class AmongOthers(AreaCase):
    def test_between_other_calls(self):
        got = ask(
            area(0), rings(0, *HOLED), area(0), tells(6), area(0), put(4, 0, 0, 0), rings(0, [0]), area(0),
            move(0, 0, 2, 0, 0, 1, 0, 0), area(0), where(0, 1, 2, 1, 2), area(0))
        self.assertEqual([answer for answer in got if len(answer) == 3],
                         [[0, 0, 1], [1, 32, 1], [1, 32, 1], [1, 32, 1], [1, 64, 1], [1, 64, 1]])

    def test_each_of_the_six(self):
        calls = [rings(number, box(0, 0, number + 1, 1)) for number in range(6)]
        got = ask(*calls, *[area(number) for number in range(6)])
        self.assertEqual(got[6:], [[1, number + 1, 1] for number in range(6)])

    def test_behind_compare(self):
        got = ask(rings(0, *HOLED), compare(0, 1), area(0), area(1))
        self.assertEqual(got[2:], [[1, 32, 1], [0, 0, 1]])


if __name__ == "__main__":
    unittest.main()
