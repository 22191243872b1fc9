"""How regions and fractions are told."""

import unittest

from tests.helper import BOTH, RegionCase, ask, box, put, rings, tells


class Tells(RegionCase):
    def test_without_rings(self):
        for number in range(6):
            self.assertEqual(ask(tells(number)), [[0]])
        self.assertEqual(ask(rings(2, [0, 0, 1, 1, 2, 2]), tells(2)), [[0, 0], [0]])

    def test_whole_numbers_have_1_below_and_0_is_0_and_1(self):
        self.assertEqual(
            ask(rings(0, [0, 0, 7, 0, 0, -3]), tells(0))[1],
            [1, 3, 0, 1, -3, 1, 7, 1, 0, 1, 0, 1, 0, 1])

    def test_several_rings(self):
        self.assertEqual(
            ask(rings(3, box(0, 0, 6, 6), [1, 1, 2, 1, 1, 2], [8, 0, 9, 0, 9, 1]), tells(3)),
            [[3, 10],
             [3,
              4, 0, 1, 0, 1, 6, 1, 0, 1, 6, 1, 6, 1, 0, 1, 6, 1,
              3, 1, 1, 1, 1, 1, 1, 2, 1, 2, 1, 1, 1,
              3, 8, 1, 0, 1, 9, 1, 0, 1, 9, 1, 1, 1]])

    def test_fractions_below_0(self):
        # The crossing is at -6/5 across and -3/5 up.
        self.assertEqual(
            ask(rings(0, [0, 0, -3, 0, 0, -1]), rings(1, [0, 0, -2, -1, 0, -1]), put(BOTH, 0, 1, 4), tells(4))[3],
            [1, 3, -6, 5, -3, 5, 0, 1, -1, 1, 0, 1, 0, 1])

    def test_fractions_have_nothing_in_common(self):
        self.assertEqual(
            ask(rings(0, [0, 0, 4, 4, 4, 0, 0, 3]), tells(0))[1],
            [2, 3, 0, 1, 0, 1, 12, 7, 12, 7, 0, 1, 3, 1, 3, 12, 7, 12, 7, 4, 1, 0, 1, 4, 1, 4, 1])
        self.assertEqual(
            ask(rings(0, [0, 0, 1, 1, 1, 0, 0, 1]), tells(0))[1],
            [2, 3, 0, 1, 0, 1, 1, 2, 1, 2, 0, 1, 1, 1, 3, 1, 2, 1, 2, 1, 1, 0, 1, 1, 1, 1, 1])

    def test_telling_changes_nothing(self):
        calls = [rings(0, box(0, 0, 2, 2)), tells(0), tells(0), tells(1), tells(0)]
        got = ask(*calls)
        self.assertEqual(got[1], got[2])
        self.assertEqual(got[1], got[4])


if __name__ == "__main__":
    unittest.main()
