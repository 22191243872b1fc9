"""Two regions put together."""

import unittest
from fractions import Fraction

from tests.helper import BOTH, EITHER, FIRST_ALONE, JUST_ONE, RegionCase, box, put, region, rings


def square(left, low, right, high):
    return [(left, low), (right, low), (right, high), (left, high)]


class PutCase(RegionCase):
    def assert_put(self, one, other, either, both, first_alone, just_one):
        """What two regions, each given by rings, are when put together in each of the four kinds."""
        expected = {EITHER: either, BOTH: both, FIRST_ALONE: first_alone, JUST_ONE: just_one}
        for kind, found in expected.items():
            with self.subTest(kind=kind):
                self.assert_region([rings(0, *one), rings(1, *other), put(kind, 0, 1, 2)], found, 2)
                if kind != FIRST_ALONE:
                    self.assert_region([rings(0, *one), rings(1, *other), put(kind, 1, 0, 2)], found, 2)


class Kinds(PutCase):
    def test_apart(self):
        one, other = square(0, 0, 2, 2), square(5, 0, 7, 2)
        self.assert_put([box(0, 0, 2, 2)], [box(5, 0, 7, 2)], [one, other], [], [one], [one, other])

    def test_crossing(self):
        self.assert_put(
            [box(0, 0, 4, 4)], [box(2, 2, 6, 6)],
            [[(0, 0), (4, 0), (4, 2), (6, 2), (6, 6), (2, 6), (2, 4), (0, 4)]],
            [square(2, 2, 4, 4)],
            [[(0, 0), (4, 0), (4, 2), (2, 2), (2, 4), (0, 4)]],
            [[(0, 0), (4, 0), (4, 2), (2, 2), (2, 4), (0, 4)], [(2, 4), (4, 4), (4, 2), (6, 2), (6, 6), (2, 6)]])

    def test_crossing_into_pieces(self):
        self.assert_put(
            [box(0, 2, 6, 4)], [box(2, 0, 4, 6)],
            [[(0, 2), (2, 2), (2, 0), (4, 0), (4, 2), (6, 2), (6, 4), (4, 4), (4, 6), (2, 6), (2, 4), (0, 4)]],
            [square(2, 2, 4, 4)],
            [square(0, 2, 2, 4), square(4, 2, 6, 4)],
            [square(0, 2, 2, 4), square(2, 0, 4, 2), square(2, 4, 4, 6), square(4, 2, 6, 4)])

    def test_the_second_within_the_first(self):
        outer, inner, hole = square(0, 0, 6, 6), square(2, 2, 4, 4), [(2, 2), (2, 4), (4, 4), (4, 2)]
        self.assert_put([box(0, 0, 6, 6)], [box(2, 2, 4, 4)], [outer], [inner], [outer, hole], [outer, hole])

    def test_the_first_within_the_second(self):
        outer, inner, hole = square(0, 0, 6, 6), square(2, 2, 4, 4), [(2, 2), (2, 4), (4, 4), (4, 2)]
        self.assert_put([box(2, 2, 4, 4)], [box(0, 0, 6, 6)], [outer], [inner], [], [outer, hole])

    def test_within_a_hole(self):
        outer, hole, inner = square(0, 0, 8, 8), [(2, 2), (2, 6), (6, 6), (6, 2)], square(3, 3, 5, 5)
        self.assert_put(
            [box(0, 0, 8, 8), box(2, 2, 6, 6)], [box(3, 3, 5, 5)],
            [outer, hole, inner], [], [outer, hole], [outer, hole, inner])

    def test_the_same(self):
        both = [square(0, 0, 6, 6), [(2, 2), (2, 4), (4, 4), (4, 2)]]
        rows = [box(0, 0, 6, 6), box(2, 2, 4, 4)]
        self.assert_put(rows, rows, both, both, [], [])

    def test_without_rings(self):
        one = [square(0, 0, 2, 2)]
        self.assert_put([box(0, 0, 2, 2)], [], one, [], one, one)
        self.assert_put([], [box(0, 0, 2, 2)], one, [], [], one)
        self.assert_put([], [], [], [], [], [])


class InCommon(PutCase):
    def test_whole_side(self):
        one, joined = square(0, 0, 2, 2), square(0, 0, 4, 2)
        self.assert_put([box(0, 0, 2, 2)], [box(2, 0, 4, 2)], [joined], [], [one], [joined])

    def test_part_of_a_side(self):
        joined = [(0, 0), (2, 0), (2, 1), (4, 1), (4, 3), (2, 3), (2, 2), (0, 2)]
        self.assert_put([box(0, 0, 2, 2)], [box(2, 1, 4, 3)], [joined], [], [square(0, 0, 2, 2)], [joined])

    def test_sides_on_the_same_side(self):
        self.assert_put(
            [box(0, 0, 4, 4)], [box(0, 0, 2, 4)],
            [square(0, 0, 4, 4)], [square(0, 0, 2, 4)], [square(2, 0, 4, 4)], [square(2, 0, 4, 4)])

    def test_hole_filled(self):
        self.assert_put(
            [box(0, 0, 6, 6), box(2, 2, 4, 4)], [box(2, 2, 4, 4)],
            [square(0, 0, 6, 6)], [], [square(0, 0, 6, 6), [(2, 2), (2, 4), (4, 4), (4, 2)]], [square(0, 0, 6, 6)])

    def test_hole_filled_in_part(self):
        outer = square(0, 0, 6, 6)
        self.assert_put(
            [box(0, 0, 6, 6), box(2, 2, 4, 4)], [box(1, 2, 3, 4)],
            [outer, [(3, 2), (3, 4), (4, 4), (4, 2)]],
            [square(1, 2, 2, 4)],
            [outer, [(1, 2), (1, 4), (4, 4), (4, 2)]],
            [outer, [(1, 2), (1, 4), (2, 4), (2, 2)], [(3, 2), (3, 4), (4, 4), (4, 2)]])

    def test_touching_corner_at_corner(self):
        one, other = square(0, 0, 2, 2), square(2, 2, 4, 4)
        self.assert_put([box(0, 0, 2, 2)], [box(2, 2, 4, 4)], [one, other], [], [one], [one, other])

    def test_touching_corner_at_a_side(self):
        one, other = square(0, 0, 4, 4), [(4, 2), (6, 1), (6, 3)]
        self.assert_put([box(0, 0, 4, 4)], [[4, 2, 6, 1, 6, 3]], [one, other], [], [one], [one, other])

    def test_touching_from_within(self):
        one, other = square(0, 0, 4, 4), [(2, 1), (4, 2), (2, 3)]
        holed = [(0, 0), (4, 0), (4, 2), (2, 1), (2, 3), (4, 2), (4, 4), (0, 4)]
        self.assert_put([box(0, 0, 4, 4)], [[4, 2, 2, 1, 2, 3]], [one], [other], [holed], [holed])

    def test_touching_at_two_points(self):
        # There is a gap between the two, but each is a piece of its own and no ring goes round the gap.
        one, other = [(0, 0), (2, 0), (1, 3), (2, 6), (0, 6)], [(2, 0), (4, 0), (4, 6), (2, 6), (3, 3)]
        self.assert_put(
            [[0, 0, 2, 0, 1, 3, 2, 6, 0, 6]], [[2, 0, 4, 0, 4, 6, 2, 6, 3, 3]],
            [one, other], [], [one], [one, other])


class Goals(RegionCase):
    ONE, OTHER = rings(0, box(0, 0, 4, 4)), rings(1, box(2, 0, 6, 4))

    def test_goal_is_the_first(self):
        calls = [self.ONE, self.OTHER, put(FIRST_ALONE, 0, 1, 0)]
        self.assert_region(calls, [square(0, 0, 2, 4)], 0)
        self.assertEqual(region(*calls, number=1), [square(2, 0, 6, 4)])

    def test_goal_is_the_second(self):
        calls = [self.ONE, self.OTHER, put(FIRST_ALONE, 0, 1, 1)]
        self.assert_region(calls, [square(0, 0, 2, 4)], 1)
        self.assertEqual(region(*calls, number=0), [square(0, 0, 4, 4)])

    def test_goal_is_another(self):
        calls = [self.ONE, self.OTHER, rings(5, box(9, 9, 10, 10)), put(BOTH, 0, 1, 5)]
        self.assert_region(calls, [square(2, 0, 4, 4)], 5)
        self.assertEqual(region(*calls, number=0), [square(0, 0, 4, 4)])
        self.assertEqual(region(*calls, number=1), [square(2, 0, 6, 4)])

    def test_a_region_with_itself(self):
        for kind, expected in enumerate([[square(0, 0, 4, 4)], [square(0, 0, 4, 4)], [], []]):
            self.assert_region([self.ONE, put(kind, 0, 0, 0)], expected, 0)
            self.assert_region([self.ONE, put(kind, 0, 0, 3)], expected, 3)

    def test_what_was_put_stays_when_its_sources_change(self):
        calls = [self.ONE, put(EITHER, 0, 1, 2), rings(0)]
        self.assertEqual(region(*calls, number=2), [square(0, 0, 4, 4)])


class Fractions(PutCase):
    def test_places_that_are_fractions(self):
        top = (2, Fraction(3, 2))
        self.assert_put(
            [[0, 0, 4, 3, 0, 3]], [[0, 0, 4, 0, 0, 3]],
            [[(0, 0), (4, 0), top, (4, 3), (0, 3)]],
            [[(0, 0), top, (0, 3)]],
            [[(0, 3), top, (4, 3)]],
            [[(0, 0), (4, 0), top], [(0, 3), top, (4, 3)]])

    def test_fractions_crossed_again(self):
        calls = [
            rings(0, [0, 0, 3, 0, 0, 1]), rings(1, [0, 0, 2, 1, 0, 1]), put(BOTH, 0, 1, 0),
            rings(1, [0, 0, 1, 0, 1, 1, -1, 1]), put(BOTH, 0, 1, 0)]
        top = (Fraction(6, 5), Fraction(3, 5))
        self.assertEqual(region(*calls[:3]), [[(0, 0), top, (0, 1)]])
        self.assertEqual(
            region(*calls),
            [[(0, 0), (1, Fraction(1, 2)), (1, Fraction(2, 3)), (0, 1)]])

    def test_crossing_back_gives_the_same_region(self):
        first, second = rings(0, [-5, -7, 6, -2, 1, 9]), rings(1, [-6, 1, 7, -3, 4, 8])
        whole = region(first)
        calls = [first, second, put(BOTH, 0, 1, 2), put(FIRST_ALONE, 0, 1, 3), put(EITHER, 2, 3, 4)]
        self.assertEqual(region(*calls, number=4), whole)
        calls[-1] = put(JUST_ONE, 2, 3, 4)
        self.assertEqual(region(*calls, number=4), whole)


if __name__ == "__main__":
    unittest.main()
