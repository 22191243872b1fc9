"""The border of what two regions have when they are put together.

A side is a tuple of its first place, its last place, and the line from the first to the last; the first
one is before the last one, whichever way the ring went: by rings only odd or even counts, not the way.
So all sides go from left to right, straight upwards at the most, and their left is what's above them.
"""

from holedregions.places import before, leftness, line_through, meeting, middle

EITHER = 0
BOTH = 1
FIRST_ALONE = 2
JUST_ONE = 3


def side_between(one, other):
    """The side between two places that aren't the same."""
    if before(other, one):
        return (other, one, line_through(other, one))
    return (one, other, line_through(one, other))


def sides_of(rings):
    """The sides of rings that are rows of places."""
    sides = []
    for ring in rings:
        for k in range(len(ring)):
            sides.append(side_between(ring[k - 1], ring[k]))
    return sides


def is_on(side, spot):
    """Whether a place is on a side; the ends are on it, too."""
    if before(spot, side[0]) or before(side[1], spot):
        return False
    return leftness(side[2], spot) == 0


def add_cut(cuts, spot):
    """Put a place on a side's line among the places that cut the side, if it's on the side and isn't there yet."""
    if before(spot, cuts[0]) or before(cuts[-1], spot):
        return
    k = 0
    while before(cuts[k], spot):
        k += 1
    if cuts[k] != spot:
        cuts.insert(k, spot)


def cut_two(one, other, one_cuts, other_cuts):
    """Cut two sides where they meet: where they cross, or where an end of the one is on the other."""
    first_off = leftness(one[2], other[0])
    last_off = leftness(one[2], other[1])
    if first_off * last_off > 0:
        return
    other_first_off = leftness(other[2], one[0])
    other_last_off = leftness(other[2], one[1])
    if other_first_off * other_last_off > 0:
        return
    if first_off * last_off < 0 and other_first_off * other_last_off < 0:
        spot = meeting(one[2], other[2])
        add_cut(one_cuts, spot)
        add_cut(other_cuts, spot)
        return
    add_ends(one_cuts, other, first_off, last_off)
    add_ends(other_cuts, one, other_first_off, other_last_off)


def add_ends(cuts, side, first_off, last_off):
    """Cut at those ends of another side that aren't off the line."""
    if first_off == 0:
        add_cut(cuts, side[0])
    if last_off == 0:
        add_cut(cuts, side[1])


def stretches(sides):
    """The parts of sides from one meeting with others to the next, each once: its first and its last place."""
    cuts = [[side[0], side[1]] for side in sides]
    for k in range(len(sides)):
        for j in range(k):
            cut_two(sides[k], sides[j], cuts[k], cuts[j])
    found = {}
    for row in cuts:
        for k in range(1, len(row)):
            found[(row[k - 1], row[k])] = True
    return list(found)


def beside(spot, sides):
    """Whether the region by these sides is at the left of a place that is no corner, and whether at its right.

    It is there if the way straight up from there meets an odd number of sides. A side counts with its first
    place and without its last, so where sides join, the way meets as many as it does just beside the joint.
    """
    above = 0
    here = 0
    for side in sides:
        if before(spot, side[1]) and not before(spot, side[0]):
            off = leftness(side[2], spot)
            if off < 0:
                above += 1
            if off == 0:
                here += 1
    return (above % 2 == 1, (above + here) % 2 == 1)


def is_in(kind, in_one, in_other):
    """Whether a point is in two regions put together, by whether it's in each of them."""
    if kind == EITHER:
        return in_one or in_other
    if kind == BOTH:
        return in_one and in_other
    if kind == FIRST_ALONE:
        return in_one and not in_other
    return in_one != in_other


def border(kind, one_sides, other_sides):
    """The stretches that part what two regions have put together from the rest, with it at their left."""
    parts = []
    for stretch in stretches(one_sides + other_sides):
        spot = middle(stretch[0], stretch[1])
        one = beside(spot, one_sides)
        other = beside(spot, other_sides)
        at_left = is_in(kind, one[0], other[0])
        at_right = is_in(kind, one[1], other[1])
        if at_left and not at_right:
            parts.append((stretch[0], stretch[1]))
        if at_right and not at_left:
            parts.append((stretch[1], stretch[0]))
    return parts
