"""The calls on six regions with holes: one list of whole numbers in, one out."""

from holedregions.borders import EITHER, JUST_ONE, border, sides_of
from holedregions.measures import are_apart, area_of, is_within, piece_count, whereabouts
from holedregions.outlines import in_order, rings_of
from holedregions.places import fraction, moved, place

RINGS = 0
PUT = 1
MOVE = 2
TELLS = 3
AREA = 4
WHERE = 5

NOT_AS_TOLD = -1
TOO_LARGE = -2
NO_SUCH_REGION = -3
NO_SUCH_POINT = -4

REGIONS = 6
MOST_RINGS = 4
MOST_POINTS = 16
FEWEST_RING_POINTS = 3
MOST_RING_POINTS = 10
MOST_HANDED_OVER = 100
MOST_SIDES = 16
MOST_IN_FRACTION = 1000000000000
POINT_NUMBERS = 4
MOST_ABOVE = 100000
MOST_BELOW = 1000


class Reader:
    """Takes numbers off a list, one behind another, and leaves the list as it is."""

    def __init__(self, numbers):
        self.numbers = numbers
        self.position = 0

    def has_more(self):
        return self.position < len(self.numbers)

    def take(self):
        """The number that comes next."""
        number = self.numbers[self.position]
        self.position += 1
        return number

    def take_row(self):
        """As many numbers as the number that comes next says."""
        count = self.take()
        row = self.numbers[self.position:self.position + count]
        self.position += count
        return row


def answers(calls):
    """The answers to calls on six regions that have no rings yet, each behind how many numbers it has."""
    regions = [[] for number in range(REGIONS)]
    reader = Reader(calls)
    told = []
    while reader.has_more():
        call = reader.take()
        numbers = reader.take_row()
        rows = []
        for number in range(reader.take()):
            rows.append(reader.take_row())
        answer = answer_of(regions, call, numbers, rows)
        told.append(len(answer))
        told.extend(answer)
    return told


def answer_of(regions, call, numbers, rows):
    """The answer to one call, by its number, its whole numbers and its lists."""
    if call == RINGS:
        return answer_rings(regions, numbers[0], rows)
    if call == PUT:
        return answer_put(regions, numbers[0], numbers[1], numbers[2], numbers[3])
    if call == MOVE:
        return answer_move(regions, numbers[0], numbers[1], numbers[2:])
    if call == TELLS:
        return answer_tells(regions, numbers[0])
    if call == AREA:
        return answer_area(regions, numbers[0])
    if call == WHERE:
        return answer_where(regions, numbers[0], numbers[1:])
    # Only compare is left: no other call is handed in.
    return answer_compare(regions, numbers[0], numbers[1])


def answer_rings(regions, goal, rows):
    """Make a region by rings."""
    if goal >= REGIONS:
        return [NO_SUCH_REGION]
    if not are_rings(rows):
        return [NOT_AS_TOLD]
    return keep(regions, goal, border(EITHER, sides_of([whole_places(row) for row in rows]), []))


def answer_put(regions, kind, one, other, goal):
    """Make a region of two put together."""
    if max(one, other, goal) >= REGIONS:
        return [NO_SUCH_REGION]
    if kind > JUST_ONE:
        return [NOT_AS_TOLD]
    return keep(regions, goal, border(kind, sides_of(regions[one]), sides_of(regions[other])))


def answer_move(regions, one, goal, move):
    """Make a region of another one moved."""
    if max(one, goal) >= REGIONS:
        return [NO_SUCH_REGION]
    if is_beyond(move, MOST_HANDED_OVER) or move[0] * move[3] == move[1] * move[2]:
        return [NOT_AS_TOLD]
    rings = [moved_ring(ring, move) for ring in regions[one]]
    return keep(regions, goal, border(EITHER, sides_of(rings), []))


def moved_ring(ring, move):
    """Where a move takes a ring's places."""
    return [moved(spot, move) for spot in ring]


def answer_tells(regions, region):
    """Tell a region's rings."""
    if region >= REGIONS:
        return [NO_SUCH_REGION]
    answer = [len(regions[region])]
    for ring in regions[region]:
        answer.append(len(ring))
        for spot in ring:
            answer.extend(told_place(spot))
    return answer


def answer_area(regions, region):
    """Tell a region's pieces and area."""
    if region >= REGIONS:
        return [NO_SUCH_REGION]
    area = area_of(regions[region])
    return [piece_count(regions[region]), area[0], area[1]]


def answer_where(regions, region, point):
    """Tell where a point is in a region."""
    if region >= REGIONS:
        return [NO_SUCH_REGION]
    if not is_point(point):
        return [NO_SUCH_POINT]
    spot = place(point[0] * point[3], point[2] * point[1], point[1] * point[3])
    return [whereabouts(regions[region], spot)]


def answer_compare(regions, one, other):
    """Tell whether two regions are the same, the first is within the second, no point is inside both."""
    if max(one, other) >= REGIONS:
        return [NO_SUCH_REGION]
    first = regions[one]
    second = regions[other]
    return [int(first == second), int(is_within(first, second)), int(are_apart(first, second))]


def told_place(spot):
    """How far across and how far up a place is: four numbers."""
    across = fraction(spot[0], spot[2])
    up = fraction(spot[1], spot[2])
    return [across[0], across[1], up[0], up[1]]


def whole_places(row):
    """The places that a ring is handed over by, two whole numbers each."""
    return [place(row[k], row[k + 1], 1) for k in range(0, len(row), 2)]


def are_rings(rows):
    """Whether rows of numbers may be handed over as rings."""
    if len(rows) > MOST_RINGS:
        return False
    if sum([len(row) for row in rows]) > 2 * MOST_POINTS:
        return False
    return all([is_ring(row) for row in rows])


def is_ring(row):
    """Whether a row of numbers may be handed over as a ring."""
    if len(row) % 2 != 0 or is_beyond(row, MOST_HANDED_OVER):
        return False
    spots = whole_places(row)
    if len(spots) < FEWEST_RING_POINTS or len(spots) > MOST_RING_POINTS:
        return False
    return all([spots[k - 1] != spots[k] for k in range(len(spots))])


def is_point(numbers):
    """Whether numbers may be handed over as a point: what's above and below, across and then up."""
    if len(numbers) != POINT_NUMBERS:
        return False
    return is_told_fraction(numbers[0], numbers[1]) and is_told_fraction(numbers[2], numbers[3])


def is_told_fraction(above, below):
    """Whether a point may be told by such a fraction, which may have something in common."""
    return abs(above) <= MOST_ABOVE and below >= 1 and below <= MOST_BELOW


def is_beyond(numbers, most):
    """Whether one of the numbers is beyond a bound in size."""
    return any([abs(number) > most for number in numbers])


def keep(regions, goal, parts):
    """Make the region with this border the one with the goal's number, if it isn't too large, and answer its size."""
    rings = rings_of(parts)
    if is_too_large(rings):
        return [TOO_LARGE]
    regions[goal] = in_order(rings)
    return [len(rings), side_count(rings)]


def side_count(rings):
    """How many sides rings have together."""
    return sum([len(ring) for ring in rings])


def is_too_large(rings):
    """Whether rings have too many sides, or a number that is too large to be told."""
    if side_count(rings) > MOST_SIDES:
        return True
    for ring in rings:
        for spot in ring:
            if is_beyond(told_place(spot), MOST_IN_FRACTION):
                return True
    return False
