"""How calls are handed in and how answers are given back."""

import contextlib
import io
import unittest

from holedregions.regions import answers
from tests.helper import (BOTH, FIRST_ALONE, RegionCase, STAY, area, box, compare, is_asked, move, put, rings, tells,
                          where)

CALLS = [
    tells(0), put(BOTH, 0, 1, 2), rings(0, box(0, 0, 4, 4)), rings(1, box(2, 2, 6, 6), [3, 3, 4, 3, 4, 5]),
    put(BOTH, 0, 1, 2), tells(2), move(2, 2, 0, 1, 1, 0, -4, 0), tells(2), rings(6), put(4, 0, 0, 0),
    rings(0), tells(0)]
# All seven kinds, as heavy as a list may be: two of put and two of compare.
SEVEN = [
    where(0, 1, 1, 1, 1), rings(0, box(0, 0, 4, 4), box(1, 1, 2, 2)), area(0), compare(0, 1), move(0, 1, *STAY),
    where(1, 3, 2, 2, 1), put(BOTH, 0, 1, 2), compare(2, 1), tells(3), put(FIRST_ALONE, 0, 4, 5), area(5),
    where(5, 7, 2, 7, 2)]


class Unchangeable(list):
    """A list that can be read but not changed."""

    def refuse(self, *args, **kwargs):
        raise AssertionError("what was handed in was changed")

    append = extend = insert = pop = remove = clear = sort = reverse = refuse
    __setitem__ = __delitem__ = __iadd__ = __imul__ = refuse


def joined(calls):
    return [number for call in calls for number in call]


class Interface(RegionCase):
    def test_one_call(self):
        self.assertEqual(answers([3, 1, 0, 0]), [1, 0])
        self.assertEqual(answers([0, 1, 0, 0]), [2, 0, 0])
        self.assertEqual(answers([0, 1, 0, 1, 6, 0, 0, 1, 0, 0, 1]), [2, 1, 3])
        self.assertEqual(answers([1, 4, 0, 0, 1, 2, 0]), [2, 0, 0])
        self.assertEqual(answers([2, 8, 0, 1, 1, 0, 0, 1, 0, 0, 0]), [2, 0, 0])
        self.assertEqual(answers([3, 1, 6, 0]), [1, -3])
        self.assertEqual(answers([1, 4, 4, 0, 1, 2, 0]), [1, -1])
        self.assertEqual(answers([4, 1, 0, 0]), [3, 0, 0, 1])
        self.assertEqual(answers([4, 1, 6, 0]), [1, -3])
        self.assertEqual(answers([5, 5, 0, 1, 2, 3, 4, 0]), [1, 0])
        self.assertEqual(answers([5, 1, 0, 0]), [1, -4])
        self.assertEqual(answers([5, 1, 6, 0]), [1, -3])
        self.assertEqual(answers([6, 2, 0, 1, 0]), [3, 1, 1, 1])
        self.assertEqual(answers([6, 2, 0, 6, 0]), [1, -3])

    def test_all_seven_kinds(self):
        self.assertTrue(is_asked(SEVEN) and len(SEVEN) == 12)
        self.assertEqual(
            answers(joined(SEVEN)),
            [1, 0,
             2, 2, 8,
             3, 1, 15, 1,
             3, 0, 0, 1,
             2, 2, 8,
             1, 1,
             2, 2, 8,
             3, 1, 1, 0,
             1, 0,
             2, 2, 8,
             3, 1, 15, 1,
             1, 2])

    def test_points_of_every_length(self):
        calls = [where(0, *[1] * count) for count in range(13)]
        self.assertEqual(answers(joined(calls[:12])), [1, -4] * 4 + [1, 0] + [1, -4] * 7)
        self.assertEqual(answers(calls[12] + tells(0)), [1, -4, 1, 0])
        widest = [5, 13, 4294967295] + [-4294967295] * 12 + [0]
        self.assertEqual(answers(widest * 12), [1, -3] * 12)

    def test_twelve_calls_in_any_order(self):
        self.assertEqual(
            answers(joined(CALLS)),
            [1, 0,
             2, 0, 0,
             2, 1, 4,
             2, 2, 7,
             2, 1, 6,
             26, 1, 6, 2, 1, 2, 1, 4, 1, 2, 1, 4, 1, 3, 1, 3, 1, 3, 1, 7, 2, 4, 1, 2, 1, 4, 1,
             2, 1, 6,
             26, 1, 6, -2, 1, 2, 1, 0, 1, 2, 1, 0, 1, 7, 2, -1, 1, 3, 1, -1, 1, 4, 1, -2, 1, 4, 1,
             1, -3,
             1, -1,
             2, 0, 0,
             1, 0])

    def test_empty_lists_and_long_lists(self):
        self.assertEqual(answers([0, 1, 0, 6, 0, 0, 0, 0, 0, 0] + tells(0)), [1, -1, 1, 0])
        longest = [0, 1, 4294967295, 6] + ([24] + [-4294967295] * 24) * 6
        self.assertEqual(len(longest), 154)
        self.assertEqual(answers(longest * 12), [1, -3] * 12)
        longest[2] = 5
        self.assertEqual(answers(longest * 12), [1, -1] * 12)

    def test_what_is_handed_in_is_not_changed(self):
        for calls in (CALLS, SEVEN, CALLS[:3], [rings(0, [0, 0, 0])], [rings(9, box(0, 0, 1, 1))]):
            handed = joined(calls)
            answers(handed)
            self.assertEqual(handed, joined(calls))
            self.assertEqual(answers(Unchangeable(handed)), answers(handed))

    def test_nothing_is_kept(self):
        for calls in (CALLS, SEVEN):
            handed = joined(calls)
            first = answers(handed)
            copied = list(first)
            self.assertEqual(answers(handed), copied)
            first.append(1)
            first[0] = 7
            self.assertEqual(answers(handed), copied)
        answers(rings(3, box(0, 0, 1, 1)))
        self.assertEqual(answers(tells(3)), [1, 0])
        self.assertEqual(answers(area(3)), [3, 0, 0, 1])
        self.assertEqual(answers(compare(3, 4)), [3, 1, 1, 1])

    def test_prints_nothing(self):
        for stream in (contextlib.redirect_stdout, contextlib.redirect_stderr):
            said = io.StringIO()
            with stream(said):
                answers(joined(CALLS))
                answers(joined(SEVEN))
            self.assertEqual(said.getvalue(), "")

    def test_whole_numbers_alone(self):
        for calls in (CALLS, SEVEN):
            got = answers(joined(calls))
            self.assertIs(type(got), list)
            self.assertEqual({type(number) for number in got}, {int})
        self.assertIs(type(answers(move(0, 0, *STAY))[1]), int)


if __name__ == "__main__":
    unittest.main()
