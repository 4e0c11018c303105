"""Lines and straights from one place to another, which differ: sides, going over, meeting, how near a place is."""

from boatlog.vectors import cross, dot, minus, square


def side(place, p, q):
    """By the line from p to q: above 0 on the left, below 0 on the right, 0 on it."""
    return cross(minus(q, p), minus(place, p))


def goes_over(c, d, p, q):
    """Whether a place that goes from c to d goes over the line from p to q."""
    if side(c, p, q) > 0 or side(d, p, q) <= 0:
        return False
    # Going from right to left between p and q, it has p on its own left and q on its right.
    return side(p, c, d) >= 0 and side(q, c, d) <= 0


def when_over(c, d, p, q):
    """For a place that goes over: the fraction of its way from c at which it's on the line."""
    behind = -side(c, p, q)
    return lowest(behind, behind + side(d, p, q))


def lowest(numerator, denominator):
    """The fraction in lowest terms, as a list of two numbers."""
    common = denominator
    rest = numerator
    while rest > 0:
        left_over = common % rest
        common = rest
        rest = left_over
    return [numerator // common, denominator // common]


def meet(a, b, c, d):
    """Whether the straights from a to b and from c to d have a place in common."""
    # On one line the sides are all 0, and how far the straights reach alone decides.
    if not reaches_meet(a[0], b[0], c[0], d[0]) or not reaches_meet(a[1], b[1], c[1], d[1]):
        return False
    return side(a, c, d) * side(b, c, d) <= 0 and side(c, a, b) * side(d, a, b) <= 0


def reaches_meet(a, b, c, d):
    return min(a, b) <= max(c, d) and min(c, d) <= max(a, b)


def is_near(place, p, q, lengths):
    """Whether the place is at most so many times the straight's own length away from the straight."""
    along = minus(q, p)
    away = minus(place, p)
    length = square(along)
    bound = lengths * lengths * length
    ahead = dot(along, away)
    if ahead <= 0:
        return square(away) <= bound
    if ahead >= length:
        return square(minus(place, q)) <= bound
    # Beside the straight the distance is the cross by the length; times the length nothing is to be divided.
    beside = cross(along, away)
    return beside * beside <= bound * length
