"""From a region's border to its rings, in one way only.

A part of the border is a tuple of two places: where it comes from and where it goes to.
"""

from holedregions.places import common_factor, leftness, line_through


def rings_of(border):
    """The rings that a border's parts make up, without the places at which a ring goes straight on."""
    ways = ways_on(border)
    used = {}
    rings = []
    for part in border:
        if part not in used:
            rings.append(corners(ring_from(part, ways, used)))
    return rings


def ways_on(border):
    """By each place the places to which parts go on from there."""
    ways = {}
    for part in border:
        ways.setdefault(part[0], []).append(part[1])
    return ways


def ring_from(part, ways, used):
    """The places of the ring that goes along a part; its parts are marked as used."""
    ring = []
    while part not in used:
        used[part] = True
        ring.append(part[0])
        part = (part[1], way_on(part, ways[part[1]]))
    return ring


def way_on(part, choices):
    """Which place comes behind a part: the first one met when one turns to the right from the way back."""
    chosen = choices[0]
    for spot in choices[1:]:
        if is_met_first(part, spot, chosen):
            chosen = spot
    return chosen


def is_met_first(part, spot, chosen):
    """Whether one place is met ahead of another when one turns to the right, at a part's end, from the way back."""
    back = line_through(part[1], part[0])
    spot_is_late = leftness(back, spot) > 0
    chosen_is_late = leftness(back, chosen) > 0
    # What takes more than half a turn comes late; only within the same half can the two be compared directly.
    if spot_is_late != chosen_is_late:
        return chosen_is_late
    return leftness(line_through(part[1], spot), chosen) < 0


def corners(ring):
    """A ring without the places at which it goes straight on; no border goes straight back."""
    kept = []
    for k in range(len(ring)):
        behind = ring[(k + 1) % len(ring)]
        if leftness(line_through(ring[k - 1], ring[k]), behind) != 0:
            kept.append(ring[k])
    return kept


def in_order(rings):
    """The rings in their order, each from the beginning that makes it first."""
    scale = common_multiple(rings)
    begun = [first_beginning(ring, scale) for ring in rings]
    return sorted(begun, key=lambda ring: scaled(ring, scale))


def first_beginning(ring, scale):
    """A ring from that of its beginnings that makes it first."""
    beginnings = [ring[k:] + ring[:k] for k in range(len(ring))]
    return min(beginnings, key=lambda row: scaled(row, scale))


def common_multiple(rings):
    """The least whole number that makes all places of the rings whole when they're stretched by it."""
    multiple = 1
    for ring in rings:
        for spot in ring:
            multiple = multiple * (spot[2] // common_factor(multiple, spot[2]))
    return multiple


def scaled(ring, scale):
    """How far across and up a ring's places are when stretched; whole numbers compare as the places do."""
    return [(spot[0] * (scale // spot[2]), spot[1] * (scale // spot[2])) for spot in ring]
