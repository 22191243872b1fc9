"""How a region stands to another one: the same, within, apart."""

import unittest

from tests.helper import (BOTH, EITHER, FIRST_ALONE, JUST_ONE, LIMIT, RegionCase, area, ask, box, compare, move, put,
                          region, rings, tells, where)

SAME, WITHIN, ROUND, CROSSING, APART = [1, 1, 0], [0, 1, 0], [0, 0, 0], [0, 0, 0], [0, 0, 1]
SQUARE = box(0, 0, 4, 4)
HOLED = [box(0, 0, 9, 9), box(3, 3, 6, 6)]
BARS = [box(0, k, 7, k + 1) for k in (0, 2, 4, 6)]
POSTS = [box(k, 0, k + 1, 7) for k in (0, 2, 4, 6)]


class CompareCase(RegionCase):
    def assert_compared(self, one, other, expected, other_way):
        """How two regions by rings stand to one another, and again when both are moved and mirrored."""
        calls = [rings(2, *one), rings(5, *other)]
        self.assert_asked(expected, compare(2, 5), calls)
        self.assert_asked(other_way, compare(5, 2), calls)
        for numbers in ((-1, 0, 0, 1, 7, -3), (0, 1, 1, 0, 0, 0), (2, 1, -1, 3, 0, 5)):
            calls = [rings(0, *one), rings(1, *other), move(0, 0, *numbers), move(1, 1, *numbers)]
            self.assertEqual(ask(*calls, compare(0, 1), compare(1, 0))[4:], [expected, other_way])


class Same(CompareCase):
    def test_the_same_number(self):
        for number in range(6):
            self.assert_asked(SAME, compare(number, number), [rings(number, *HOLED)])

    def test_drawn_the_same(self):
        self.assert_compared(HOLED, HOLED, SAME, SAME)

    def test_drawn_in_another_way(self):
        for row in ([0, 4, 4, 4, 4, 0, 0, 0], [4, 0, 4, 4, 0, 4, 0, 0], [0, 0, 1, 0, 4, 0, 4, 4, 2, 4, 0, 4, 0, 3]):
            self.assert_compared([SQUARE], [row], SAME, SAME)
        self.assert_compared([SQUARE], [box(0, 0, 2, 4), box(2, 0, 4, 4)], SAME, SAME)
        self.assert_compared([SQUARE], [[0, 0, 4, 0, 4, 4, 6, 6, 4, 4, 0, 4]], SAME, SAME)
        self.assert_compared([box(0, 0, 2, 2), box(2, 2, 4, 4)], [[0, 0, 2, 0, 2, 4, 4, 4, 4, 2, 0, 2]], SAME, SAME)
        self.assert_compared(HOLED, [HOLED[1][::-1], HOLED[0]], SAME, SAME)

    def test_come_to_in_another_way(self):
        first, second = rings(0, [-5, -7, 6, -2, 1, 9]), rings(1, [-6, 1, 7, -3, 4, 8])
        calls = [first, second, put(BOTH, 0, 1, 2), put(FIRST_ALONE, 0, 1, 3), put(EITHER, 2, 3, 4)]
        self.assert_asked(SAME, compare(0, 4), calls)
        self.assert_asked(WITHIN, compare(2, 4), calls)
        self.assert_asked(APART, compare(2, 3), calls)
        there = [rings(0, *HOLED), move(0, 1, 2, 1, 1, 1, 3, -4), move(1, 1, 1, -1, -1, 2, -7, 11)]
        self.assert_asked(SAME, compare(1, 0), there)

    def test_as_large_but_not_the_same(self):
        self.assert_compared([box(0, 0, 4, 2)], [box(0, 0, 2, 4)], CROSSING, CROSSING)
        self.assert_compared([SQUARE], [box(5, 0, 9, 4)], APART, APART)


class Within(CompareCase):
    def test_well_within(self):
        self.assert_compared([box(1, 1, 3, 3)], [SQUARE], WITHIN, ROUND)
        self.assert_compared([box(1, 1, 4, 4)], HOLED, CROSSING, CROSSING)
        self.assert_compared([box(1, 1, 2, 2)], HOLED, WITHIN, ROUND)

    def test_with_a_side_in_common(self):
        self.assert_compared([box(0, 1, 2, 3)], [SQUARE], WITHIN, ROUND)
        self.assert_compared([box(0, 0, 2, 4)], [SQUARE], WITHIN, ROUND)
        self.assert_compared([[0, 0, 4, 4, 0, 4]], [SQUARE], WITHIN, ROUND)
        self.assert_compared([[0, 0, 4, 2, 2, 4]], [[0, 0, 8, 4, 4, 8]], WITHIN, ROUND)

    def test_touching_at_a_point(self):
        self.assert_compared([[4, 2, 2, 1, 2, 3]], [SQUARE], WITHIN, ROUND)
        self.assert_compared([[0, 0, 2, 1, 1, 2]], [SQUARE], WITHIN, ROUND)
        self.assert_compared([[2, 0, 4, 2, 2, 4, 0, 2]], [SQUARE], WITHIN, ROUND)
        self.assert_compared([box(1, 1, 3, 3)], HOLED, WITHIN, ROUND)

    def test_a_hole_alone_is_between_them(self):
        self.assert_compared(HOLED, [box(0, 0, 9, 9)], WITHIN, ROUND)
        self.assert_compared(HOLED, [box(0, 0, 9, 9), box(4, 4, 5, 5)], WITHIN, ROUND)
        self.assert_compared([SQUARE, [4, 2, 2, 1, 2, 3]], [SQUARE], WITHIN, ROUND)

    def test_in_a_hole(self):
        self.assert_compared([box(4, 4, 5, 5)], HOLED, APART, APART)
        self.assert_compared([box(3, 3, 6, 6)], HOLED, APART, APART)
        self.assert_compared([[3, 4, 5, 4, 5, 5]], HOLED, APART, APART)
        self.assert_compared([box(4, 4, 7, 5)], HOLED, CROSSING, CROSSING)
        nested = [box(0, 0, 10, 10), box(1, 1, 9, 9), box(3, 3, 7, 7)]
        self.assert_compared([box(3, 3, 7, 7)], nested, WITHIN, ROUND)
        self.assert_compared([box(4, 3, 5, 5)], nested, WITHIN, ROUND)
        self.assert_compared([box(2, 2, 8, 8)], nested, CROSSING, CROSSING)

    def test_several_pieces(self):
        pieces = [box(0, 0, 2, 2), box(5, 0, 7, 2)]
        self.assert_compared([pieces[0]], pieces, WITHIN, ROUND)
        self.assert_compared(pieces, [box(-1, -1, 8, 3)], WITHIN, ROUND)
        self.assert_compared(pieces, [box(-1, -1, 3, 3)], CROSSING, CROSSING)
        self.assert_compared(pieces, [box(3, 0, 4, 2)], APART, APART)
        self.assert_compared([[0, 0, 1, 1, 0, 1], [5, 0, 6, 1, 5, 1]], pieces, WITHIN, ROUND)


class CrossingOrApart(CompareCase):
    def test_crossing(self):
        self.assert_compared([SQUARE], [box(2, 2, 6, 6)], CROSSING, CROSSING)
        self.assert_compared([SQUARE], [box(-1, 1, 5, 3)], CROSSING, CROSSING)
        self.assert_compared([SQUARE], [[2, 2, 6, 1, 6, 3]], CROSSING, CROSSING)
        self.assert_compared([SQUARE], [[4, 2, 100, 99, -100, 100]], CROSSING, CROSSING)

    def test_crossing_a_little(self):
        # The tip reaches over the side by less than a hundredth.
        self.assert_compared([[0, 0, 100, 1, 0, 100]], [[99, 0, 100, 0, 99, 1]], CROSSING, CROSSING)
        self.assert_compared([[0, 0, 99, 98, 0, 99]], [[100, 99, 100, 98, 98, 97]], APART, APART)

    def test_apart(self):
        self.assert_compared([SQUARE], [box(6, 0, 8, 4)], APART, APART)
        self.assert_compared([SQUARE], [box(0, 5, 4, 8), box(-5, 0, -1, 4)], APART, APART)
        self.assert_compared([[0, 0, 9, 0, 0, 9]], [[9, 9, 9, 1, 1, 9]], APART, APART)

    def test_touching_along_a_side(self):
        self.assert_compared([SQUARE], [box(4, 0, 8, 4)], APART, APART)
        self.assert_compared([SQUARE], [box(4, 1, 8, 3)], APART, APART)
        self.assert_compared([SQUARE], [box(1, 4, 9, 8)], APART, APART)
        self.assert_compared([[0, 0, 4, 4, 0, 4]], [[0, 0, 6, 6, 6, 0]], APART, APART)

    def test_touching_at_a_point(self):
        self.assert_compared([SQUARE], [box(4, 4, 8, 8)], APART, APART)
        self.assert_compared([SQUARE], [[4, 2, 6, 1, 6, 3]], APART, APART)
        self.assert_compared([SQUARE], [[2, 0, 6, -4, 1, -4]], APART, APART)

    def test_touching_all_over(self):
        self.assert_compared(
            [box(0, 0, 2, 2), box(2, 2, 4, 4)], [box(2, 0, 4, 2), box(0, 2, 2, 4)], APART, APART)
        self.assert_compared([[0, 0, 4, 4, 4, 0, 0, 4]], [[0, 0, 4, 0, 0, 4, 4, 4]], APART, APART)

    def test_without_rings(self):
        self.assert_compared([], [], [1, 1, 1], [1, 1, 1])
        self.assert_compared([], [SQUARE], [0, 1, 1], [0, 0, 1])
        self.assert_compared([[0, 0, 1, 1, 2, 2]], HOLED, [0, 1, 1], [0, 0, 1])
        self.assert_compared([SQUARE, SQUARE], [], [1, 1, 1], [1, 1, 1])
        for number in range(6):
            self.assertEqual(ask(compare(number, number)), [[1, 1, 1]])


class WherePutRefuses(CompareCase):
    def test_too_many_sides(self):
        calls = [rings(0, *BARS), rings(1, *POSTS)]
        for kind in range(4):
            self.assertEqual(ask(*calls, put(kind, 0, 1, 2))[-1], [-2])
        self.assert_compared(BARS, POSTS, CROSSING, CROSSING)
        self.assert_compared(BARS, BARS, SAME, SAME)
        self.assert_compared(BARS, [box(0, 0, 7, 7)], WITHIN, ROUND)
        between = [box(0, k, 7, k + 1) for k in (1, 3, 5, 7)]
        self.assert_compared(BARS, between, APART, APART)
        aside = [box(k, k, k + 1, k + 1) for k in (20, 22, 24, 26)]
        self.assertEqual(ask(calls[0], rings(1, *aside), put(EITHER, 0, 1, 2))[-1], [-2])
        self.assert_compared(BARS, aside, APART, APART)

    def test_too_large_numbers(self):
        steep = [rings(0, [-1, 0, 0, 0, 0, 100])] + [move(0, 0, 1, 0, 0, 100, 0, 0)] * 4
        calls = steep + [move(0, 0, 1, 0, 1, 100, 0, 0), rings(1, box(-2, -2, 1, 0))]
        self.assertEqual(region(*calls), [[(-1, -1), (0, 0), (0, LIMIT)]])
        self.assertEqual(ask(*calls, put(BOTH, 0, 1, 2))[-1], [-2])
        self.assert_asked(CROSSING, compare(0, 1), calls)
        self.assert_asked(CROSSING, compare(1, 0), calls)


class AmongOthers(CompareCase):
    def test_three_in_one_list(self):
        self.assertEqual(
            ask(rings(0, *BARS), rings(1, *POSTS), rings(2, box(0, 0, 7, 7)), compare(0, 1), compare(1, 2),
                compare(2, 0)),
            [[4, 16], [4, 16], [1, 4], CROSSING, WITHIN, ROUND])

    def test_between_other_calls(self):
        got = ask(
            compare(0, 1), rings(0, SQUARE), rings(1, SQUARE), move(1, 1, 1, 0, 0, 1, 0, 0), compare(0, 1),
            rings(1, [0]), where(0, 2, 1, 2, 1), put(JUST_ONE, 0, 1, 0), put(7, 0, 1, 0), area(0), tells(0))
        self.assertEqual(
            got, [[1, 1, 1], [1, 4], [1, 4], [1, 4], SAME, [-1], [2], [0, 0], [-1], [0, 0, 1], [0]])

    def test_behind_put_with_fractions(self):
        calls = [rings(0, [0, 0, 3, 0, 0, 1]), rings(1, [0, 0, 2, 1, 0, 1]), put(BOTH, 0, 1, 2)]
        self.assert_asked(WITHIN, compare(2, 0), calls)
        self.assert_asked(WITHIN, compare(2, 1), calls)
        self.assert_asked(ROUND, compare(0, 2), calls)
        self.assert_asked(APART, compare(2, 3), calls + [put(FIRST_ALONE, 0, 1, 3)])
        # The corner 6/5, 3/5 stretched by 5 is 6, 3.
        stretched = calls + [move(2, 2, 5, 0, 0, 5, 0, 0), rings(4, [0, 0, 6, 3, 0, 5])]
        self.assert_asked(SAME, compare(2, 4), stretched)


if __name__ == "__main__":
    unittest.main()
