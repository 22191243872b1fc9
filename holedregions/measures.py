"""What a region measures, where places are in it, and how it stands to another one.

A region is its rings, told in their one way: rings round an area turn left, rings round a hole turn right.
"""

from holedregions.borders import BOTH, FIRST_ALONE, beside, border, is_on, sides_of
from holedregions.outlines import common_multiple, scaled
from holedregions.places import fraction

ELSEWHERE = 0
ON_A_SIDE = 1
INSIDE = 2


def piece_count(rings):
    """How many of the rings go round an area at their left."""
    areas = doubled_areas(rings, common_multiple(rings))
    return len([area for area in areas if area > 0])


def area_of(rings):
    """The area of a region, what's above and what's below."""
    scale = common_multiple(rings)
    # Those of holes are below 0, so the sum is what is left beside the holes.
    return fraction(sum(doubled_areas(rings, scale)), 2 * scale * scale)


def doubled_areas(rings, scale):
    """Twice the area that each ring has at its left when stretched to whole numbers; below 0 for holes."""
    return [doubled_area(scaled(ring, scale)) for ring in rings]


def doubled_area(points):
    """Twice the area that a ring of whole points goes round, below 0 if it turns right."""
    total = 0
    for k in range(len(points)):
        one = points[k - 1]
        other = points[k]
        total += one[0] * other[1] - one[1] * other[0]
    return total


def whereabouts(rings, spot):
    """Whether a place is inside a region, on a side of it, or elsewhere."""
    sides = sides_of(rings)
    if any([is_on(side, spot) for side in sides]):
        return ON_A_SIDE
    # On no side, what's at the left of the place and what's at its right is the same.
    if beside(spot, sides)[0]:
        return INSIDE
    return ELSEWHERE


def is_within(one, other):
    """Whether a region has nothing that another one hasn't."""
    return border(FIRST_ALONE, sides_of(one), sides_of(other)) == []


def are_apart(one, other):
    """Whether no point is inside both of two regions; along sides and at points they may touch."""
    return border(BOTH, sides_of(one), sides_of(other)) == []
