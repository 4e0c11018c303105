"""Hulls, as tuples of their bow's x, y and their stern's x, y: what one is to another, to a place, to the wind."""

from boatlog.straights import is_near, meet
from boatlog.vectors import dot, minus, plus


def bow(hull):
    return (hull[0], hull[1])


def stern(hull):
    return (hull[2], hull[3])


def heading(hull):
    return minus(bow(hull), stern(hull))


def middle(hull):
    """Twice the middle: bow and stern together, so that it's whole."""
    return plus(bow(hull), stern(hull))


def is_behind(place, hull):
    return dot(heading(hull), minus(place, stern(hull))) < 0


def is_clear_astern(one, other):
    """Whether the one is clear astern of the other."""
    return is_behind(bow(one), other) and is_behind(stern(one), other)


def is_to_leeward(one, other, wind):
    """Whether the one is to leeward of the other."""
    return dot(wind, minus(middle(one), middle(other))) > 0


def do_touch(one, other):
    return meet(bow(one), stern(one), bow(other), stern(other))


def is_in_zone(hull, place, lengths):
    return is_near(place, bow(hull), stern(hull), lengths)
