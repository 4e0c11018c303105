"""Headings as they turn: by half, from tack to tack, round and round."""

from boatlog.vectors import cross, dot

STARBOARD = 1
PORT = 2

TACKS = 1
GYBES = 2


def turned_by_half(before, after):
    return cross(before, after) == 0 and dot(before, after) < 0


def tack_after(before, course, wind):
    lean = cross(course, wind)
    if lean > 0:
        return STARBOARD
    if lean < 0:
        return PORT
    return before


def points_into(course, wind):
    return dot(course, wind) < 0


def is_left(course, mark):
    """The mark itself is on its left, what's just against it isn't."""
    lean = cross(mark, course)
    return lean > 0 or (lean == 0 and dot(mark, course) > 0)


def passing(mark, before, after):
    """1 if the turn goes to the left past the mark, -1 if to the right, else 0."""
    turn = cross(before, after)
    if turn > 0 and not is_left(before, mark) and is_left(after, mark):
        return 1
    if turn < 0 and is_left(before, mark) and not is_left(after, mark):
        return -1
    return 0


def rounds(courses):
    """The rounds from the first of the headings to the last."""
    return sum([passing(courses[0], before, after) for before, after in zip(courses, courses[1:])])
