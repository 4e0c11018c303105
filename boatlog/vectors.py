"""Places and vectors, both as pairs of whole numbers."""


def minus(one, other):
    return (one[0] - other[0], one[1] - other[1])


def plus(one, other):
    return (one[0] + other[0], one[1] + other[1])


def cross(one, other):
    return one[0] * other[1] - one[1] * other[0]


def dot(one, other):
    return one[0] * other[0] + one[1] * other[1]


def square(vector):
    """The square of its length."""
    return dot(vector, vector)
