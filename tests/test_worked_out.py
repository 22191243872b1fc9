"""Many drawings, each answered by the program and worked out by the document's words alone."""

import random
import unittest

from tests.helper import (EITHER, Model, RegionCase, area, ask, compare, expected_answers, is_asked, move, points_of,
                          put, rings, tells, told, where, worked_out)


def drawn_ring(source, count, size):
    """A ring's numbers; on a small grid sides cross, touch and lie on one another very often."""
    while True:
        points = [(source.randint(-size, size), source.randint(-size, size)) for point in range(count)]
        if all(points[k - 1] != points[k] for k in range(count)):
            return [number for point in points for number in point]


def drawn(source, size, most=16):
    rows = []
    left = source.randint(3, most)
    while left >= 3 and len(rows) < 4:
        count = source.randint(3, min(left, 10))
        rows.append(drawn_ring(source, count, size))
        left -= count
    return rows


def drawn_number(source):
    """A region's number, at times of one that isn't there."""
    return source.choice([0, 1, 2] * 9 + [5, 6])


def drawn_point(source, size):
    """A point near drawings of this size, often at a corner or on a side, at times not told as it may be."""
    point = []
    for way in range(2):
        below = source.choice([1, 1, 1, 2, 3, 4, 6])
        point += [source.randint(-size * below - 1, size * below + 1), below]
    if source.random() < 0.05:
        point[source.randrange(4)] = source.choice([0, -1, 1001, 100001, -100001])
    if source.random() < 0.05:
        point = point[:3]
    return point


def drawn_call(source, size):
    kind = source.randrange(8)
    one, other, goal = (drawn_number(source) for number in range(3))
    if kind in (0, 7):
        return rings(one, *drawn(source, size, source.choice([4, 6, 9])))
    if kind == 1:
        return put(source.choice([0, 1, 2, 3] * 5 + [4]), one, other, goal)
    if kind == 2:
        return move(one, goal, *[source.randint(-2, 2) for number in range(6)])
    if kind == 5:
        return where(one, *drawn_point(source, size))
    if kind == 6:
        return compare(one, other)
    return tells(one) if kind == 3 else area(one)


def drawn_list(source, size):
    """Twelve calls of all kinds, no heavier than such a list may be."""
    calls = [rings(number, *drawn(source, size, 6)) for number in range(2)]
    while len(calls) < 12:
        call = drawn_call(source, size)
        if is_asked(calls + [call]):
            calls.append(call)
    return calls


class WorkedOut(RegionCase):
    def check(self, calls, expected, number):
        """That the last of some calls answers as expected and, if not refused, makes the region expected."""
        got = ask(*calls, tells(number))
        self.assertEqual(got[-2], expected_answers(expected), calls)
        if got[-2][0] >= 0:
            self.assertEqual(told(got[-1]), expected, calls)

    def test_rings(self):
        source = random.Random(1)
        for size in [2] * 60 + [3] * 60 + [5] * 40 + [100] * 40:
            rows = drawn(source, size, source.choice([5, 8, 12, 16]))
            with self.subTest(rows=rows):
                self.check([rings(0, *rows)], worked_out(EITHER, [points_of(row) for row in rows], []), 0)

    def test_put(self):
        source = random.Random(2)
        for size in [2] * 20 + [3] * 20 + [5] * 15 + [100] * 15:
            one, other = drawn(source, size, 8), drawn(source, size, 8)
            for kind in range(4):
                calls = [rings(0, *one), rings(1, *other), put(kind, 0, 1, 2)]
                if min(answer[0] for answer in ask(*calls[:2])) < 0:
                    continue
                with self.subTest(one=one, other=other, kind=kind):
                    rows = [[points_of(row) for row in region] for region in (one, other)]
                    self.check(calls, worked_out(kind, *rows), 2)

    def test_put_behind_put(self):
        source = random.Random(3)
        for size in [2] * 20 + [4] * 20:
            first, second, third = (drawn(source, size, 6) for region in range(3))
            kinds = [source.randint(0, 3), source.randint(0, 3)]
            calls = [rings(0, *first), rings(1, *second), rings(2, *third), put(kinds[0], 0, 1, 0)]
            answered = ask(*calls, tells(0), tells(2))
            if min(answer[0] for answer in answered[:4]) < 0:
                continue
            with self.subTest(regions=(first, second, third), kinds=kinds):
                expected = worked_out(kinds[1], told(answered[4]), told(answered[5]))
                self.check(calls + [put(kinds[1], 0, 2, 2)], expected, 2)

    def test_move(self):
        source = random.Random(4)
        for size in [2] * 20 + [4] * 20:
            rows = drawn(source, size, 8)
            a, b, c, d, e, f = (source.randint(-5, 5) for number in range(6))
            if a * d == b * c or ask(rings(0, *rows))[0][0] < 0:
                continue
            moved = [[(a * x + b * y + e, c * x + d * y + f) for x, y in points_of(row)] for row in rows]
            with self.subTest(rows=rows, move=(a, b, c, d, e, f)):
                calls = [rings(0, *rows), move(0, 1, a, b, c, d, e, f)]
                self.check(calls, worked_out(EITHER, moved, []), 1)

    def test_area(self):
        source = random.Random(5)
        for size in [2] * 60 + [3] * 60 + [5] * 30 + [100] * 30:
            self.check_list([rings(0, *drawn(source, size, source.choice([5, 8, 12]))), area(0)])

    def test_where(self):
        source = random.Random(6)
        for size in [2] * 40 + [3] * 40 + [5] * 20:
            rows = drawn(source, size, source.choice([5, 8, 12]))
            self.check_list([rings(0, *rows)] + [where(0, *drawn_point(source, size)) for point in range(11)])

    def test_where_at_every_corner_and_beside_it(self):
        source = random.Random(7)
        for size in [2] * 10 + [3] * 10:
            row = drawn_ring(source, 5, size)
            for x, y in points_of(row):
                beside = [where(0, x + a, 1, y + b, 1) for a in (-1, 0, 1) for b in (-1, 0, 1)]
                self.check_list([rings(0, row)] + beside)

    def test_compare(self):
        source = random.Random(8)
        for size in [1] * 40 + [2] * 40 + [3] * 20 + [100] * 10:
            rows = [drawn(source, size, 6) for region in range(2)]
            calls = [rings(0, *rows[0]), rings(1, *rows[1])]
            self.check_list(calls + [compare(0, 1), compare(1, 0), compare(0, 0)])

    def test_compare_what_is_put_together(self):
        source = random.Random(9)
        for size in [2] * 15 + [4] * 15:
            calls = [rings(0, *drawn(source, size, 5)), rings(1, *drawn(source, size, 5))]
            kinds = [source.randint(0, 3), source.randint(0, 3)]
            calls += [put(kinds[0], 0, 1, 2), put(kinds[1], 1, 0, 3)]
            self.check_list(calls + [compare(2, 3), compare(source.randint(0, 1), 2), area(2), area(3)])

    def test_lists_of_all_kinds(self):
        source = random.Random(10)
        for size in [1] * 30 + [2] * 60 + [3] * 40 + [9] * 20:
            self.check_list(drawn_list(source, size))

    def check_list(self, calls):
        """That a list of calls is answered, call by call, as the words alone answer it."""
        model = Model()
        with self.subTest(calls=calls):
            self.assertEqual(ask(*calls), [model.answer(call) for call in calls])


if __name__ == "__main__":
    unittest.main()
