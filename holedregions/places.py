"""Exact places in the plane, and lines through them.

A place is a tuple of three whole numbers x, y, w: it is x / w across and y / w up. Its w is above 0
and the three have no factor in common, so the same place is always the same tuple and can be a key.
A line is a tuple of three whole numbers too; it has a direction, so it has a left and a right.
"""


def common_factor(one, other):
    """The greatest whole number that divides both, not below 0."""
    while other != 0:
        rest = one % other
        one = other
        other = rest
    return abs(one)


def place(x, y, w):
    """The place x / w across, y / w up; w isn't 0."""
    factor = common_factor(common_factor(x, y), w)
    if w < 0:
        factor = -factor
    return (x // factor, y // factor, w // factor)


def fraction(above, below):
    """What's above and what's below, with nothing in common; below is above 0."""
    factor = common_factor(above, below)
    return (above // factor, below // factor)


def moved(spot, move):
    """Where a move of six numbers a to f takes a place."""
    across = move[0] * spot[0] + move[1] * spot[1] + move[4] * spot[2]
    up = move[2] * spot[0] + move[3] * spot[1] + move[5] * spot[2]
    return place(across, up, spot[2])


def before(one, other):
    """Whether a place is further left than another, or as far left and lower."""
    left = one[0] * other[2]
    right = other[0] * one[2]
    if left != right:
        return left < right
    return one[1] * other[2] < other[1] * one[2]


def middle(one, other):
    """The place halfway; its numbers may have a factor in common, so it is no key."""
    return (
        one[0] * other[2] + other[0] * one[2],
        one[1] * other[2] + other[1] * one[2],
        2 * one[2] * other[2],
    )


def cross_product(one, other):
    """At once the line through two places and, up to a factor, the place where two lines meet."""
    return (
        one[1] * other[2] - one[2] * other[1],
        one[2] * other[0] - one[0] * other[2],
        one[0] * other[1] - one[1] * other[0],
    )


def line_through(one, other):
    """The line from a place to another one."""
    return cross_product(one, other)


def meeting(one, other):
    """The place where two lines meet that aren't parallel."""
    found = cross_product(one, other)
    return place(found[0], found[1], found[2])


def leftness(line, spot):
    """Above 0 if a place is at a line's left, below 0 if at its right, 0 if on it."""
    return line[0] * spot[0] + line[1] * spot[1] + line[2] * spot[2]
