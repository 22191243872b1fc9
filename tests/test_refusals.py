"""Promises 1, 2 and 3: what is refused, with the last thing that is not refused beside it."""

import unittest
from fractions import Fraction

from tests.helper import (BOTH, EITHER, FIRST_ALONE, JUST_ONE, LIMIT, RegionCase, STAY, area, ask, box, compare, move,
                          put, region, rings, tells, where)

HUGE = 4294967295
TRIANGLE = [0, 0, 4, 0, 0, 4]
# Something in each region a refused call names, so that a change would show.
SOME = [rings(0, box(0, 0, 4, 4)), rings(1, box(2, 2, 6, 6), box(3, 3, 4, 4)), rings(5, TRIANGLE)]
TEN = [0, 0, 2, -1, 4, -1, 6, 0, 7, 2, 7, 4, 6, 6, 4, 7, 2, 7, 0, 6]
ELEVEN = TEN + [-1, 4]


class NoSuchRegion(RegionCase):
    def test_rings(self):
        self.assert_taken(rings(5, TRIANGLE), SOME)
        for number in (6, 7, HUGE):
            self.assert_refused(-3, rings(number, TRIANGLE), SOME)
            self.assert_refused(-3, rings(number), SOME)

    def test_put(self):
        self.assert_taken(put(EITHER, 5, 5, 5), SOME)
        for number in (6, HUGE):
            self.assert_refused(-3, put(EITHER, number, 0, 0), SOME)
            self.assert_refused(-3, put(EITHER, 0, number, 0), SOME)
            self.assert_refused(-3, put(EITHER, 0, 1, number), SOME)
            self.assert_refused(-3, put(EITHER, number, number, number), SOME)

    def test_move(self):
        self.assert_taken(move(5, 5, *STAY), SOME)
        for number in (6, HUGE):
            self.assert_refused(-3, move(number, 0, *STAY), SOME)
            self.assert_refused(-3, move(0, number, *STAY), SOME)

    def test_tells(self):
        self.assertEqual(ask(*SOME, tells(5))[-1][0], 1)
        for number in (6, HUGE):
            self.assert_refused(-3, tells(number), SOME)


    def test_area(self):
        self.assert_asked([1, 8, 1], area(5), SOME)
        for number in (6, 7, HUGE):
            self.assert_refused(-3, area(number), SOME)

    def test_where(self):
        self.assert_asked([2], where(5, 1, 1, 1, 1), SOME)
        for number in (6, 7, HUGE):
            self.assert_refused(-3, where(number, 1, 1, 1, 1), SOME)

    def test_compare(self):
        self.assert_asked([0, 1, 0], compare(5, 0), SOME)
        self.assert_asked([0, 0, 0], compare(0, 5), SOME)
        self.assert_asked([1, 1, 0], compare(5, 5), SOME)
        for number in (6, 7, HUGE):
            self.assert_refused(-3, compare(number, 0), SOME)
            self.assert_refused(-3, compare(5, number), SOME)
            self.assert_refused(-3, compare(number, number), SOME)
            self.assert_refused(-3, compare(number, 3), SOME)


class RingsNotAsTold(RegionCase):
    def assert_not_as_told(self, *rows):
        self.assert_refused(-1, rings(0, *rows), SOME)
        self.assert_refused(-1, rings(3, *rows), SOME)

    def assert_as_told(self, *rows):
        self.assert_taken(rings(0, *rows), SOME)

    def test_how_many_rings(self):
        rows = [[k, 0, k + 1, 0, k, 1] for k in range(0, 12, 2)]
        for count in range(5):
            self.assert_as_told(*rows[:count])
        self.assert_not_as_told(*rows[:5])
        self.assert_not_as_told(*rows[:6])

    def test_how_many_points_together(self):
        self.assert_as_told(TEN, [2, 2, 4, 2, 5, 3, 4, 4, 3, 5, 2, 4])
        self.assert_not_as_told(TEN, [2, 2, 4, 2, 5, 3, 4, 4, 3, 5, 2, 4, 1, 3])
        self.assert_as_told(*[box(k, 0, k + 1, 1) for k in (0, 2, 4, 6)])
        self.assert_not_as_told(*[box(k, 0, k + 1, 1) for k in (0, 2, 4)], [6, 0, 7, 0, 8, 1, 7, 2, 6, 1])

    def test_how_many_points_a_ring(self):
        self.assert_not_as_told([])
        self.assert_not_as_told([0, 0])
        self.assert_not_as_told([0, 0, 4, 4])
        self.assert_as_told([0, 0, 4, 4, 0, 4])
        self.assert_as_told(TEN)
        self.assert_not_as_told(ELEVEN)
        self.assert_not_as_told(ELEVEN + [-1, 2])
        self.assert_not_as_told(TRIANGLE, [])
        self.assert_not_as_told(TRIANGLE, [6, 6, 8, 8])

    def test_told_in_twos(self):
        self.assert_not_as_told([0])
        self.assert_not_as_told([0, 0, 4, 0, 4])
        self.assert_not_as_told(TRIANGLE + [7])
        self.assert_not_as_told(TRIANGLE, [6, 0, 9, 0, 9, 9, 1])
        self.assert_not_as_told(TEN + [-1])

    def test_the_same_point_twice(self):
        self.assert_not_as_told([0, 0, 0, 0, 4, 0, 0, 4])
        self.assert_not_as_told([0, 0, 4, 0, 4, 0, 0, 4])
        self.assert_not_as_told([0, 0, 4, 0, 0, 4, 0, 0])
        self.assert_not_as_told([1, 1, 1, 1, 1, 1])
        self.assert_not_as_told(TRIANGLE, [6, 6, 8, 6, 6, 8, 6, 6])
        # Not one behind the other, or the same number at one of the two places alone.
        self.assert_as_told([0, 0, 4, 0, 0, 0, 0, 4])
        self.assert_as_told([0, 0, 4, 0, 2, 2, 4, 4, 0, 4, 2, 2])
        self.assert_as_told([0, 1, 0, 2, 1, 2])

    def test_how_far(self):
        for k in range(6):
            for far in (100, -100):
                row = [10, 20, 30, 25, -15, 40]
                row[k] = far
                self.assert_as_told(row)
                row[k] = far + (1 if far > 0 else -1)
                self.assert_not_as_told(row)
                row[k] = HUGE if far > 0 else -HUGE
                self.assert_not_as_told(row)
        self.assert_not_as_told(TRIANGLE, [0, 0, 101, 0, 0, 9])

    def test_no_such_region_comes_first(self):
        self.assert_refused(-3, rings(6, []), SOME)
        self.assert_refused(-3, rings(6, [0, 0, 0]), SOME)
        self.assert_refused(-3, rings(HUGE, [101, 0, 0, 0, 0, 4]), SOME)


class PutNotAsTold(RegionCase):
    def test_kind(self):
        for kind in range(4):
            self.assert_taken(put(kind, 0, 1, 2), SOME)
        for kind in (4, 5, HUGE):
            self.assert_refused(-1, put(kind, 0, 1, 2), SOME)
            self.assert_refused(-1, put(kind, 3, 3, 0), SOME)

    def test_no_such_region_comes_first(self):
        self.assert_refused(-3, put(4, 6, 0, 0), SOME)
        self.assert_refused(-3, put(4, 0, 6, 0), SOME)
        self.assert_refused(-3, put(HUGE, 0, 1, 6), SOME)


class MoveNotAsTold(RegionCase):
    def test_how_far(self):
        for k in range(6):
            for far in (100, -100):
                numbers = [3, 1, 1, 2, 0, 0]
                numbers[k] = far
                self.assert_taken(move(0, 1, *numbers), SOME)
                numbers[k] = far + (1 if far > 0 else -1)
                self.assert_refused(-1, move(0, 1, *numbers), SOME)
                numbers[k] = HUGE if far > 0 else -HUGE
                self.assert_refused(-1, move(0, 1, *numbers), SOME)

    def test_flat(self):
        for numbers in ((0, 0, 0, 0), (1, 0, 0, 0), (0, 1, 0, 1), (2, 3, 4, 6), (-2, 3, 2, -3), (100, 100, 100, 100)):
            self.assert_refused(-1, move(0, 1, *numbers, 0, 0), SOME)
            self.assert_refused(-1, move(2, 0, *numbers, 5, 5), SOME)
        for numbers in ((2, 3, 4, 7), (2, 3, 5, 6), (0, 1, 1, 0), (100, 99, 100, 100)):
            self.assert_taken(move(0, 1, *numbers, 0, 0), SOME)

    def test_no_such_region_comes_first(self):
        self.assert_refused(-3, move(6, 0, 0, 0, 0, 0, 0, 0), SOME)
        self.assert_refused(-3, move(0, 6, 101, 0, 0, 1, 0, 0), SOME)


class WhereNotAsTold(RegionCase):
    # The first two numbers tell how far across, the last two how far up.
    POINT = [1, 1, 1, 1]

    def assert_point(self, k, number, is_told):
        """Whether a point is taken that has a number at the place k; 0 is across, 2 is up."""
        point = list(self.POINT)
        point[k] = number
        for region in (0, 1, 3, 5):
            if is_told:
                self.assertIn(ask(*SOME, where(region, *point))[-1], ([0], [1], [2]), point)
            else:
                self.assert_refused(-4, where(region, *point), SOME)

    def test_how_many_numbers(self):
        for count in (0, 1, 2, 3, 5, 6, 7, 8, 12):
            for region in (0, 3, 5):
                self.assert_refused(-4, where(region, *[1] * count), SOME)
        self.assert_asked([2], where(0, *[1] * 4), SOME)

    def test_how_many_are_counted_not_what_they_are(self):
        for point in ([0, 1, 0], [0, 1, 0, 1, 0], [0, 1, 0, 1, 0, 1], [HUGE] * 12, [-HUGE] * 3):
            self.assert_refused(-4, where(0, *point), SOME)

    def test_above(self):
        for k in (0, 2):
            for number in (-100000, -99999, -1, 0, 1, 99999, 100000):
                self.assert_point(k, number, True)
            for number in (-HUGE, -100001, 100001, HUGE):
                self.assert_point(k, number, False)

    def test_below(self):
        for k in (1, 3):
            for number in (1, 2, 999, 1000):
                self.assert_point(k, number, True)
            for number in (-HUGE, -1000, -1, 0, 1001, HUGE):
                self.assert_point(k, number, False)

    def test_above_and_below_have_each_their_own_bounds(self):
        self.assert_asked([0], where(0, 100000, 1000, -100000, 1000), SOME)
        # 100001 of 1000 and 2002 of 1001 are near enough, but they aren't told as they may be.
        self.assert_refused(-4, where(0, 100001, 1000, 1, 1), SOME)
        self.assert_refused(-4, where(0, 2002, 1001, 1, 1), SOME)
        self.assert_refused(-4, where(0, -1, -1, 1, 1), SOME)
        self.assert_refused(-4, where(0, 1, 1, 0, 0), SOME)

    def test_no_such_region_comes_first(self):
        for number in (6, HUGE):
            self.assert_refused(-3, where(number), SOME)
            self.assert_refused(-3, where(number, *[1] * 3), SOME)
            self.assert_refused(-3, where(number, *[1] * 12), SOME)
            self.assert_refused(-3, where(number, 100001, 1, 1, 1), SOME)
            self.assert_refused(-3, where(number, 1, 0, 1, 1), SOME)
            self.assert_refused(-3, where(number, 1, 1, 1, 1001), SOME)

    def test_without_rings_it_is_refused_too(self):
        self.assertEqual(ask(where(0), where(0, 1, 0, 1, 1), where(0, 1, 1, 1, 1)), [[-4], [-4], [0]])


class TooManySides(RegionCase):
    # Two squares that cross leave twelve sides.
    CROSSED = [box(0, 0, 2, 2), box(1, 1, 3, 3)]
    THREE = rings(2, *[box(k, 0, k + 1, 1) for k in (0, 2, 4)])
    FIVE = [20, 0, 21, 0, 22, 1, 21, 2, 20, 1]

    def test_rings(self):
        self.assertEqual(ask(rings(0, *self.CROSSED, box(9, 0, 10, 1)))[0], [3, 16])
        self.assert_refused(-2, rings(0, *self.CROSSED, self.FIVE), SOME)
        self.assert_refused(-2, rings(3, [0, 0, 6, 0, 3, 6], [0, 4, 3, -2, 6, 4]), SOME)

    def test_points_gone_straight_through_do_not_count(self):
        straight = [9, 0, 10, 0, 11, 0, 11, 1, 9, 1]
        self.assertEqual(ask(rings(0, *self.CROSSED, straight))[0], [3, 16])

    def test_put(self):
        self.assertEqual(ask(self.THREE, rings(3, box(6, 0, 7, 1)), put(EITHER, 2, 3, 2))[-1], [4, 16])
        before = [rings(0, box(0, 0, 4, 4)), self.THREE, rings(3, self.FIVE)]
        for goal in (0, 2, 3):
            self.assert_refused(-2, put(EITHER, 2, 3, goal), before)
            self.assert_refused(-2, put(JUST_ONE, 2, 3, goal), before)
        self.assert_taken(put(BOTH, 2, 3, 0), before)

    def test_not_as_told_comes_first(self):
        self.assert_refused(-1, rings(0, *self.CROSSED, self.FIVE[:-2] + [101, 1]), SOME)
        before = [self.THREE, rings(3, self.FIVE)]
        self.assert_refused(-1, put(4, 2, 3, 0), before)
        self.assert_refused(-3, put(0, 2, 3, 6), before)


class TooLargeNumbers(RegionCase):
    WIDE = [rings(0, [0, 0, 100, 0, 0, 1])] + [move(0, 0, 100, 0, 0, 1, 0, 0)] * 5
    HIGH = [rings(0, [0, 0, 1, 0, 0, 100])] + [move(0, 0, 1, 0, 0, 100, 0, 0)] * 5
    # From -1, 0 the long side goes up to 0, 10^10, so it's 10^12 high when stretched once more.
    STEEP = [rings(0, [-1, 0, 0, 0, 0, 100])] + [move(0, 0, 1, 0, 0, 100, 0, 0)] * 4

    def test_above(self):
        self.assertEqual(region(*self.WIDE), [[(0, 0), (LIMIT, 0), (0, 1)]])
        self.assert_refused(-2, move(0, 0, 1, 0, 0, 1, 1, 0), self.WIDE)
        self.assert_refused(-2, move(0, 1, 1, 1, 0, 1, 1, 0), self.WIDE)
        self.assert_taken(move(0, 1, 1, 0, 0, 1, -1, 0), self.WIDE)

    def test_above_upwards(self):
        self.assertEqual(region(*self.HIGH), [[(0, 0), (1, 0), (0, LIMIT)]])
        self.assert_refused(-2, move(0, 0, 1, 0, 0, 1, 0, 1), self.HIGH)
        self.assert_taken(move(0, 0, 1, 0, 0, 1, 0, -1), self.HIGH)

    def test_above_below_0(self):
        for calls, mirror, further in ((self.WIDE, (-1, 0, 0, 1), (-1, 0)), (self.HIGH, (1, 0, 0, -1), (0, -1))):
            self.assert_taken(move(0, 0, *mirror, 0, 0), calls)
            self.assert_refused(-2, move(0, 0, *mirror, *further), calls)

    def test_not_as_told_comes_first(self):
        self.assert_refused(-1, move(0, 0, 101, 0, 0, 1, 1, 0), self.WIDE)
        self.assert_refused(-1, move(0, 0, 100, 0, 0, 0, 1, 0), self.WIDE)
        self.assert_refused(-3, move(0, 6, 1, 0, 0, 1, 1, 0), self.WIDE)

    def test_below(self):
        calls = self.STEEP + [move(0, 0, 1, 0, 0, 100, 0, 0), rings(1, box(-2, -2, 1, 1))]
        self.assertEqual(
            region(*calls, put(BOTH, 0, 1, 2), number=2),
            [[(-1, 0), (0, 0), (0, 1), (Fraction(1 - LIMIT, LIMIT), 1)]])

    def test_below_one_beyond(self):
        # Sheared while it is stretched, the long side begins at -1, -1 and is one higher.
        calls = self.STEEP + [move(0, 0, 1, 0, 1, 100, 0, 0), rings(1, box(-2, -2, 1, 0))]
        self.assertEqual(region(*calls), [[(-1, -1), (0, 0), (0, LIMIT)]])
        self.assert_refused(-2, put(FIRST_ALONE, 0, 1, 2), calls)
        self.assert_refused(-2, put(FIRST_ALONE, 0, 1, 0), calls)
        self.assert_taken(put(EITHER, 0, 0, 2), calls)

    def test_below_upwards(self):
        # The same with across and up changed over.
        flat = [rings(0, [0, -1, 0, 0, 100, 0])] + [move(0, 0, 100, 0, 0, 1, 0, 0)] * 4
        just = flat + [move(0, 0, 100, 0, 0, 1, 0, 0), rings(1, box(-2, -2, 1, 1))]
        self.assertEqual(
            region(*just, put(BOTH, 0, 1, 2), number=2),
            [[(0, -1), (1, Fraction(1 - LIMIT, LIMIT)), (1, 0), (0, 0)]])
        beyond = flat + [move(0, 0, 100, 1, 0, 1, 0, 0), rings(1, box(-2, -2, 0, 1))]
        self.assertEqual(region(*beyond), [[(-1, -1), (LIMIT, 0), (0, 0)]])
        self.assert_refused(-2, put(FIRST_ALONE, 0, 1, 1), beyond)


class BehindRefusals(RegionCase):
    def test_calls_go_on(self):
        got = ask(
            rings(6, TRIANGLE), rings(0, TRIANGLE), put(9, 0, 0, 0), move(0, 0, 0, 0, 0, 0, 0, 0), tells(7), tells(0))
        self.assertEqual(got[:5], [[-3], [1, 3], [-1], [-1], [-3]])
        self.assertEqual(got[5][:2], [1, 3])

    def test_area_where_and_compare_go_on(self):
        got = ask(
            rings(0, TRIANGLE), area(6), area(0), where(6), where(0, 1, 1), where(0, 1, 1, 1, 1), compare(0, 6),
            compare(0, 1), rings(0, []), move(0, 0, 0, 0, 0, 0, 0, 0), area(0), where(0, 2, 1, 2, 1))
        self.assertEqual(
            got, [[1, 3], [-3], [1, 8, 1], [-3], [-4], [2], [-3], [0, 0, 1], [-1], [-1], [1, 8, 1], [1]])


if __name__ == "__main__":
    unittest.main()
