"""Many drawings, each answered by the program and worked out by the document's words alone."""

import random
import unittest

from tests.helper import (EITHER, RegionCase, ask, expected_answers, move, points_of, put, rings, tells, told,
                          worked_out)


def drawn_ring(source, count, size):
    """A ring's numbers; on a small grid sides cross, touch and lie on one another very often."""
    while True:
        points = [(source.randint(-size, size), source.randint(-size, size)) for point in range(count)]
        if all(points[k - 1] != points[k] for k in range(count)):
            return [number for point in points for number in point]


def drawn(source, size, most=16):
    rows = []
    left = source.randint(3, most)
    while left >= 3 and len(rows) < 4:
        count = source.randint(3, min(left, 10))
        rows.append(drawn_ring(source, count, size))
        left -= count
    return rows


class WorkedOut(RegionCase):
    def check(self, calls, expected, number):
        """That the last of some calls answers as expected and, if not refused, makes the region expected."""
        got = ask(*calls, tells(number))
        self.assertEqual(got[-2], expected_answers(expected), calls)
        if got[-2][0] >= 0:
            self.assertEqual(told(got[-1]), expected, calls)

    def test_rings(self):
        source = random.Random(1)
        for size in [2] * 60 + [3] * 60 + [5] * 40 + [100] * 40:
            rows = drawn(source, size, source.choice([5, 8, 12, 16]))
            with self.subTest(rows=rows):
                self.check([rings(0, *rows)], worked_out(EITHER, [points_of(row) for row in rows], []), 0)

    def test_put(self):
        source = random.Random(2)
        for size in [2] * 20 + [3] * 20 + [5] * 15 + [100] * 15:
            one, other = drawn(source, size, 8), drawn(source, size, 8)
            for kind in range(4):
                calls = [rings(0, *one), rings(1, *other), put(kind, 0, 1, 2)]
                if min(answer[0] for answer in ask(*calls[:2])) < 0:
                    continue
                with self.subTest(one=one, other=other, kind=kind):
                    rows = [[points_of(row) for row in region] for region in (one, other)]
                    self.check(calls, worked_out(kind, *rows), 2)

    def test_put_behind_put(self):
        source = random.Random(3)
        for size in [2] * 20 + [4] * 20:
            first, second, third = (drawn(source, size, 6) for region in range(3))
            kinds = [source.randint(0, 3), source.randint(0, 3)]
            calls = [rings(0, *first), rings(1, *second), rings(2, *third), put(kinds[0], 0, 1, 0)]
            answered = ask(*calls, tells(0), tells(2))
            if min(answer[0] for answer in answered[:4]) < 0:
                continue
            with self.subTest(regions=(first, second, third), kinds=kinds):
                expected = worked_out(kinds[1], told(answered[4]), told(answered[5]))
                self.check(calls + [put(kinds[1], 0, 2, 2)], expected, 2)

    def test_move(self):
        source = random.Random(4)
        for size in [2] * 20 + [4] * 20:
            rows = drawn(source, size, 8)
            a, b, c, d, e, f = (source.randint(-5, 5) for number in range(6))
            if a * d == b * c or ask(rings(0, *rows))[0][0] < 0:
                continue
            moved = [[(a * x + b * y + e, c * x + d * y + f) for x, y in points_of(row)] for row in rows]
            with self.subTest(rows=rows, move=(a, b, c, d, e, f)):
                calls = [rings(0, *rows), move(0, 1, a, b, c, d, e, f)]
                self.check(calls, worked_out(EITHER, moved, []), 1)


if __name__ == "__main__":
    unittest.main()
