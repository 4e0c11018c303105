"""Vectors as pairs of whole numbers, and what a hull and the wind make of them."""

STARBOARD = 1
PORT = 2


def cross(one, other):
    return one[0] * other[1] - one[1] * other[0]


def dot(one, other):
    return one[0] * other[0] + one[1] * other[1]


def heading(hull):
    """A hull is its bow's x, y and its stern's x, y."""
    return (hull[0] - hull[2], hull[1] - hull[3])


def turned_by_half(before, after):
    return cross(before, after) == 0 and dot(before, after) < 0


def tack_after(before, course, wind):
    side = cross(course, wind)
    if side > 0:
        return STARBOARD
    if side < 0:
        return PORT
    return before
