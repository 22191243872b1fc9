"""What the tests share: calls as lists, answers taken apart, and regions worked out in another way.

The second half, from times_round on, follows the words of the document as plainly as can be, with Python's own
fractions and without a thought of speed: a point just beside each part of a side tells what is there.
"""

import unittest
from fractions import Fraction
from math import gcd

from holedregions.regions import answers

EITHER, BOTH, FIRST_ALONE, JUST_ONE = range(4)
LIMIT = 10 ** 12
STAY = (1, 0, 0, 1, 0, 0)


def rings(region, *rows):
    call = [0, 1, region, len(rows)]
    for row in rows:
        call += [len(row), *row]
    return call


def put(kind, one, other, goal):
    return [1, 4, kind, one, other, goal, 0]


def move(one, goal, *numbers):
    return [2, 8, one, goal, *numbers, 0]


def tells(region):
    return [3, 1, region, 0]


def area(region):
    return [4, 1, region, 0]


def where(region, *point):
    return [5, 1 + len(point), region, *point, 0]


def compare(one, other):
    return [6, 2, one, other, 0]


def is_asked(calls):
    """Whether the document allows that such a list is handed in."""
    weight = sum({1: 1, 6: 2}.get(call[0], 0) for call in calls)
    return 1 <= len(calls) <= 12 and weight <= 6


def box(left, low, right, high):
    return [left, low, right, low, right, high, left, high]


def ask(*calls):
    """The answers to calls, one list each."""
    assert is_asked(calls), "no such list is handed in"
    handed = [number for call in calls for number in call]
    before = list(handed)
    got = answers(handed)
    assert handed == before, "what was handed in was changed"
    assert type(got) is list and all(type(number) is int for number in got), got
    taken = []
    at = 0
    while at < len(got):
        taken.append(got[at + 1:at + 1 + got[at]])
        assert len(taken[-1]) == got[at], "an answer is cut short"
        at += 1 + got[at]
    assert len(taken) == len(calls), (len(taken), len(calls))
    return taken


def told(answer):
    """The rings of an answer of tells: lists of points, each two fractions."""
    found = []
    at = 1
    for ring in range(answer[0]):
        points = []
        for k in range(at + 1, at + 1 + 4 * answer[at], 4):
            for above, below in (answer[k:k + 2], answer[k + 2:k + 4]):
                assert below > 0 and gcd(above, below) == 1, (above, below)
            points.append((Fraction(answer[k], answer[k + 1]), Fraction(answer[k + 2], answer[k + 3])))
        found.append(points)
        at += 1 + 4 * answer[at]
    assert at == len(answer), "numbers behind the last ring"
    return found


def region(*calls, number=0):
    """The rings that a region has behind some calls."""
    return told(ask(*calls, tells(number))[-1])


class RegionCase(unittest.TestCase):
    """Asks that regions are told as expected, and that the counts answered fit what is told."""

    def assert_region(self, calls, expected, number=0):
        got = ask(*calls, tells(number))
        self.assertEqual(told(got[-1]), expected)
        self.assertEqual(got[-2], [len(expected), sum(len(ring) for ring in expected)])

    def assert_refused(self, refusal, call, before=()):
        """That a call is refused and all six regions are as they were."""
        self.assert_asked([refusal], call, before)

    def assert_asked(self, expected, call, before=()):
        """That a call answers as expected and all six regions are as they were."""
        looks = [tells(number) for number in range(6)]
        before = list(before)
        split = len(before)
        room = 12 - split - 1
        for start in range(0, 6, room):
            some = looks[start:start + room]
            plain = ask(*before, *some)
            asked = ask(*before, call, *some)
            self.assertEqual(asked[split], expected, call)
            self.assertEqual(asked[:split] + asked[split + 1:], plain, call)

    def assert_taken(self, call, before=()):
        got = ask(*before, call)[-1]
        self.assertEqual(len(got), 2, got)
        self.assertGreaterEqual(got[0], 0)


def times_round(rows, point):
    """How often rings go round a point that is on none of their sides, together."""
    x, y = point
    times = 0
    for row in rows:
        for (x1, y1), (x2, y2) in zip(row, row[1:] + row[:1]):
            if (y1 <= y) != (y2 <= y):
                at_left = (x2 - x1) * (y - y1) - (x - x1) * (y2 - y1) > 0
                if at_left and y1 <= y:
                    times += 1
                if not at_left and y1 > y:
                    times -= 1
    return times


def is_odd(rows, point):
    return times_round(rows, point) % 2 == 1


def is_put(kind, in_one, in_other):
    return (in_one or in_other, in_one and in_other, in_one and not in_other, in_one != in_other)[kind]


def turned(one, two, three):
    return (two[0] - one[0]) * (three[1] - one[1]) - (two[1] - one[1]) * (three[0] - one[0])


def is_on(side, point):
    start, end = side
    return (turned(start, end, point) == 0
            and min(start[0], end[0]) <= point[0] <= max(start[0], end[0])
            and min(start[1], end[1]) <= point[1] <= max(start[1], end[1]))


def meetings(side, other):
    """The points at which a side meets another: ends of sides, or the one where they cross."""
    found = [end for end in other if is_on(side, end)] + [end for end in side if is_on(other, end)]
    one, two = turned(*side, other[0]), turned(*side, other[1])
    if one != two:
        share = Fraction(one) / (one - two)
        point = tuple(Fraction(other[0][k] + share * (other[1][k] - other[0][k])) for k in (0, 1))
        if is_on(side, point) and is_on(other, point):
            found.append(point)
    return found


def parts_of(sides):
    """The sides' parts between meetings, each once."""
    parts = {}
    for side in sides:
        points = {side[0], side[1]}
        for other in sides:
            points.update(meetings(side, other))
        row = sorted(points)
        for start, end in zip(row, row[1:]):
            parts[(start, end)] = True
    return list(parts)


def angle(start, end):
    """Grows as the direction turns left, from 0 to 4 for a whole turn."""
    x, y = end[0] - start[0], end[1] - start[1]
    share = Fraction(x) / (abs(x) + abs(y))
    return 1 - share if y >= 0 else 3 + share


def follow(borders):
    """The rings of border parts, by the rule of the first way on to the right."""
    left = list(borders)
    found = []
    while left:
        start, end = left.pop(0)
        ring = [start]
        back = start
        while end != ring[0] or (end, first_right(borders, back, end)) in left:
            onward = first_right(borders, back, end)
            left.remove((end, onward))
            ring.append(end)
            back, end = end, onward
        found.append(ring)
    return found


def first_right(borders, back, at):
    ways = [end for start, end in borders if start == at]
    return min(ways, key=lambda end: (angle(at, back) - angle(at, end)) % 4)


def in_one_way(found):
    """Rings without points gone straight through, each from its first beginning, in their order."""
    rows = []
    for ring in found:
        kept = [point for k, point in enumerate(ring)
                if turned(ring[k - 1], point, ring[(k + 1) % len(ring)]) != 0]
        rows.append(min(kept[k:] + kept[:k] for k in range(len(kept))))
    return sorted(rows)


def just_left(start, end):
    """A point at the left of the middle between two points, nearer than anything else can be."""
    middle = tuple(Fraction(start[k] + end[k]) / 2 for k in (0, 1))
    step = tuple(Fraction(end[k] - start[k]) / 10 ** 80 for k in (0, 1))
    return (middle[0] - step[1], middle[1] + step[0])


def worked_out(kind, one, other):
    """What two regions by rings are when they are put together, worked out by the words alone."""
    sides = [(row[k - 1], row[k]) for row in one + other for k in range(len(row))]
    borders = []
    for start, end in parts_of(sides):
        points = (just_left(start, end), just_left(end, start))
        here, there = (is_put(kind, is_odd(one, point), is_odd(other, point)) for point in points)
        if here and not there:
            borders.append((start, end))
        if there and not here:
            borders.append((end, start))
    return in_one_way(follow(borders))


def points_of(row):
    return [(row[k], row[k + 1]) for k in range(0, len(row), 2)]


def expected_answers(found):
    """What the call that makes such a region answers: its size, or that it is too large."""
    count = sum(len(ring) for ring in found)
    numbers = [Fraction(number) for ring in found for point in ring for number in point]
    if count > 16 or any(max(abs(number.numerator), number.denominator) > LIMIT for number in numbers):
        return [-2]
    return [len(found), count]


def is_piece(ring):
    """Whether a ring, by itself, goes round what is just at its left; no ring goes along a side of its own."""
    return times_round([ring], just_left(ring[0], ring[1])) == 1


def area_worked_out(found):
    """The area of a region, by the strips between its sides and the line of height 0."""
    total = Fraction(0)
    for ring in found:
        for (x1, y1), (x2, y2) in zip(ring, ring[1:] + ring[:1]):
            total += Fraction(x1 - x2) * (y1 + y2) / 2
    return total


def where_worked_out(found, point):
    for ring in found:
        if any(is_on((ring[k - 1], ring[k]), point) for k in range(len(ring))):
            return 1
    return 2 if times_round(found, point) == 1 else 0


def are_rings_told(rows):
    if len(rows) > 4 or any(len(row) % 2 or not 3 <= len(row) // 2 <= 10 for row in rows):
        return False
    found = [points_of(row) for row in rows]
    return (sum(len(ring) for ring in found) <= 16
            and all(ring[k - 1] != ring[k] for ring in found for k in range(len(ring)))
            and all(-100 <= number <= 100 for row in rows for number in row))


class Model:
    """Six regions that answer calls by the document's words alone."""

    def __init__(self):
        self.regions = [[] for number in range(6)]

    def answer(self, call):
        """The answer to one call, handed in as the program takes it."""
        numbers = call[2:2 + call[1]]
        if call[0] == 0:
            return self.rings(numbers[0], rows_of(call))
        name = (None, "put", "move", "tells", "area", "where", "compare")[call[0]]
        return getattr(self, name)(*numbers)

    def has(self, *numbers):
        return all(number < 6 for number in numbers)

    def keep(self, goal, found):
        answer = expected_answers(found)
        if answer != [-2]:
            self.regions[goal] = found
        return answer

    def rings(self, goal, rows):
        if not self.has(goal):
            return [-3]
        if not are_rings_told(rows):
            return [-1]
        return self.keep(goal, worked_out(EITHER, [points_of(row) for row in rows], []))

    def put(self, kind, one, other, goal):
        if not self.has(one, other, goal):
            return [-3]
        if kind > 3:
            return [-1]
        return self.keep(goal, worked_out(kind, self.regions[one], self.regions[other]))

    def move(self, one, goal, a, b, c, d, e, f):
        if not self.has(one, goal):
            return [-3]
        if max(abs(number) for number in (a, b, c, d, e, f)) > 100 or a * d - b * c == 0:
            return [-1]
        moved = [[(a * x + b * y + e, c * x + d * y + f) for x, y in ring] for ring in self.regions[one]]
        return self.keep(goal, worked_out(EITHER, moved, []))

    def tells(self, region):
        if not self.has(region):
            return [-3]
        answer = [len(self.regions[region])]
        for ring in self.regions[region]:
            answer.append(len(ring))
            for number in (Fraction(number) for point in ring for number in point):
                answer += [number.numerator, number.denominator]
        return answer

    def area(self, region):
        if not self.has(region):
            return [-3]
        found = self.regions[region]
        size = area_worked_out(found)
        return [sum(is_piece(ring) for ring in found), size.numerator, size.denominator]

    def where(self, region, *point):
        if not self.has(region):
            return [-3]
        if len(point) != 4 or max(abs(point[0]), abs(point[2])) > 100000:
            return [-4]
        if min(point[1], point[3]) < 1 or max(point[1], point[3]) > 1000:
            return [-4]
        return [where_worked_out(self.regions[region], (Fraction(*point[:2]), Fraction(*point[2:])))]

    def compare(self, one, other):
        if not self.has(one, other):
            return [-3]
        return [int(worked_out(kind, self.regions[one], self.regions[other]) == [])
                for kind in (JUST_ONE, FIRST_ALONE, BOTH)]


def rows_of(call):
    """The rings that a call of rings hands over."""
    rows = []
    at = 4
    for row in range(call[3]):
        rows.append(call[at + 1:at + 1 + call[at]])
        at += 1 + call[at]
    return rows
