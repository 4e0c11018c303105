"""Many made-up logs, asked by next, round, pair, zone, over and touch beside a second reckoning, written another way:
with fractions, complex numbers and angles."""

import cmath
import math
import random
import unittest
from fractions import Fraction

from tests.helper import ask_of, made_fleet, next_change, over, pair, rounds, touch, zone


def places(hull):
    return complex(hull[0], hull[1]), complex(hull[2], hull[3])


def course(hull):
    bow, stern = places(hull)
    return bow - stern


def dot_of(one, other):
    return (one.conjugate() * other).real


def cross_of(one, other):
    return (one.conjugate() * other).imag


def whole(number):
    return Fraction(int(number))


def tacks_of(ats, winds, i):
    tacks = [1]
    for hulls, wind in zip(ats, winds):
        angle = cross_of(course(hulls[i]), complex(*wind))
        tacks.append(tacks[-1] if angle == 0 else 1 if angle > 0 else 2)
    return tacks[1:]


def next_of(ats, winds, i, m):
    tacks = tacks_of(ats, winds, i)
    into = [dot_of(course(hulls[i]), complex(*wind)) < 0 for hulls, wind in zip(ats, winds)]
    found = [k for k in range(m + 1, len(ats)) if tacks[k - 1] != tacks[k]]
    return [0, found[0], 1 if any(into[found[0] - 1:found[0] + 1]) else 2] if found else [-3]


def rounds_of(ats, i, m, k):
    """The whole turns to the left, rounded down, of all the angles turned by together."""
    courses = [course(hulls[i]) for hulls in ats[m:k + 1]]
    turns = sum(cmath.phase(after / before) for before, after in zip(courses, courses[1:])) / (2 * math.pi)
    along = cross_of(courses[0], courses[-1]) == 0 and dot_of(courses[0], courses[-1]) > 0
    return [0, round(turns) if along else math.floor(turns)]


def share(p, q, place):
    """The nearest place to another on the straight from p to q, as the fraction of the way."""
    part = whole(dot_of(q - p, place - p)) / whole(dot_of(q - p, q - p))
    return min(max(part, Fraction(0)), Fraction(1))


def nearness(p, q, place):
    part = share(p, q, place)
    x = whole(p.real) + part * whole((q - p).real) - whole(place.real)
    y = whole(p.imag) + part * whole((q - p).imag) - whole(place.imag)
    return x * x + y * y


def zone_of(hull, place, k):
    bow, stern = places(hull)
    return [1 if nearness(bow, stern, place) <= k * k * whole(dot_of(bow - stern, bow - stern)) else 0]


def do_touch(one, other):
    """They touch if an end of the one lies on the other, or if they cross somewhere inside both."""
    (a, b), (c, d) = places(one), places(other)
    ends = [nearness(c, d, a), nearness(c, d, b), nearness(a, b, c), nearness(a, b, d)]
    if min(ends) == 0:
        return True
    across = whole(cross_of(b - a, d - c))
    if across == 0:
        return False
    first = whole(cross_of(c - a, d - c)) / across
    second = whole(cross_of(c - a, b - a)) / across
    return 0 < first < 1 and 0 < second < 1


def pair_of(one, other, wind):
    def behind(first, second):
        bow, stern = places(second)
        return max(dot_of(bow - stern, place - stern) for place in places(first)) < 0
    lower = dot_of(complex(*wind), sum(places(other)) - sum(places(one)))
    astern = {(False, False): 0, (True, False): 1, (False, True): 2, (True, True): 3}
    return [0, astern[behind(one, other), behind(other, one)], 1 if lower > 0 else 2 if lower < 0 else 0,
            int(do_touch(one, other))]


def over_of(ats, i, m, p, q):
    for k in range(m, len(ats) - 1):
        c, d = places(ats[k][i])[0], places(ats[k + 1][i])[0]
        # How far on the left, at the fraction f of the way: left + f * gain.
        left = whole(cross_of(q - p, c - p))
        gain = whole(cross_of(q - p, d - c))
        if left > 0 or left + gain <= 0:
            continue
        when = -left / gain
        along = whole(dot_of(q - p, c - p)) + when * whole(dot_of(q - p, d - c))
        if 0 <= along <= whole(dot_of(q - p, q - p)):
            return [0, k, when.numerator, when.denominator]
    return [-3]


def touch_of(ats, i, j, m):
    found = [k for k in range(m, len(ats)) if do_touch(ats[k][i], ats[k][j])]
    return [0, found[0]] if found else [-3]


class BesideTheReckoning(unittest.TestCase):
    def beside(self, log, asked, seen):
        """Each call's answer is the expected one; what was seen is kept, to tell whether enough was."""
        told = ask_of(log, *[call for call, expected in asked])
        for (call, expected), answer in zip(asked, told):
            self.assertEqual(answer, expected, (log, call))
            seen.add((call[0],) + tuple(answer[:1] if call[0] in (11, 12) else answer[-1:] if call[0] == 7 else answer))

    def asked_of(self, chance, ats, winds, reach):
        asked = []
        for m in range(len(ats)):
            for i in range(2):
                place = [chance.randint(-reach - 1, reach + 1), chance.randint(-reach - 1, reach + 1)]
                k = chance.randint(0, 2)
                asked.append((next_change(i, m), next_of(ats, winds, i, m)))
                asked.append((zone(i, m, *place, k), zone_of(ats[m][i], complex(*place), k)))
                asked.append((pair(i, 1 - i, m), pair_of(ats[m][i], ats[m][1 - i], winds[m])))
                asked.append((touch(i, 1 - i, m), touch_of(ats, i, 1 - i, m)))
                to = chance.randrange(m, len(ats))
                asked.append((rounds(i, m, to), rounds_of(ats, i, m, to)))
                line = [chance.randint(-reach, reach) for number in range(4)]
                if line[:2] != line[2:]:
                    asked.append((over(i, m, *line), over_of(ats, i, m, complex(*line[:2]), complex(*line[2:]))))
        return asked

    def check(self, seed, times, reach):
        chance = random.Random(seed)
        seen = set()
        for k in range(times):
            lines, ats, winds = made_fleet(chance, 2, chance.randint(1, 9), reach)
            self.beside("".join(lines), self.asked_of(chance, ats, winds, reach), seen)
        return seen

    def test_small_numbers(self):
        seen = self.check(5, 1200, 2)
        self.assertLessEqual({(7, 1), (7, 2), (7, -3), (8, 0, -1), (8, 0, 0), (8, 0, 1), (10, 0), (10, 1), (11, 0),
                              (11, -3), (12, 0), (12, -3)}, seen)
        pairs = {(9, 0, astern, leeward, touching) for astern in range(4) for leeward in range(3)
                 for touching in range(2) if not (astern and touching)}
        self.assertEqual(pairs, {one for one in seen if one[0] == 9})

    def test_larger_numbers(self):
        self.check(6, 300, 9)
        self.check(7, 200, 1000)

    def test_many_turns(self):
        chance = random.Random(8)
        seen = set()
        for times in range(60):
            lines, ats, winds = made_fleet(chance, 1, 60, 3)
            stretches = [sorted((chance.randrange(60), chance.randrange(60))) for k in range(40)]
            asked = [(rounds(0, m, k), rounds_of(ats, 0, m, k)) for m, k in stretches]
            self.beside("".join(lines), asked, seen)
        self.assertGreater(len(seen), 6)


if __name__ == "__main__":
    unittest.main()
