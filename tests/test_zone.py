"""zone: whether a boat is in the zone of a place, k of its hull's lengths wide."""

import unittest

from tests.helper import FAR, HIGHEST, LOWEST, MOST, ask, ask_of, two, zone

BEYOND = [-8]
NO_SUCH = [-4]


class ZoneCase(unittest.TestCase):
    def bound(self, hull, k, near, beyond):
        """The places near are in, those beyond aren't; which end is the bow doesn't matter."""
        numbers = hull.split()
        for turned in (hull, " ".join(numbers[2:] + numbers[:2])):
            log = f"boat a\nwind 0 1\nat {turned}\n"
            told = ask_of(log, *[zone(0, 0, x, y, k) for x, y in near + beyond])
            self.assertEqual(told, [[1]] * len(near) + [[0]] * len(beyond), (turned, k))


class HowNear(ZoneCase):
    def test_to_the_inside(self):
        self.bound("6 8 0 0", 1, [(-5, 10), (11, -2), (3, 4), (-4, 10)], [(-5, 11), (-6, 10), (12, -2), (11, -3)])

    def test_to_the_inside_not_to_the_line(self):
        """Near the line that goes on beyond the ends, but not near the straight."""
        self.bound("6 8 0 0", 1, [(12, 16), (-6, -8)], [(18, 24), (-9, -12), (15, 20), (12, 17), (-6, -9)])

    def test_to_the_ends(self):
        self.bound("3 4 0 0", 1, [(6, 8), (3, 9), (8, 4), (7, 7), (-3, -4), (0, -5), (-5, 0), (-4, -3)],
                   [(7, 8), (6, 9), (3, 10), (9, 4), (-4, -4), (0, -6), (-6, 0), (-3, -5)])

    def test_level_with_the_ends(self):
        self.bound("4 0 0 0", 1, [(0, 4), (4, 4), (0, -4), (4, -4), (2, 4), (8, 0), (-4, 0)],
                   [(0, 5), (4, 5), (0, -5), (4, -5), (2, 5), (9, 0), (-5, 0), (-1, 4), (5, 4), (8, 1)])

    def test_two_lengths(self):
        self.bound("4 0 0 0", 2, [(2, 8), (12, 0), (-8, 0)], [(2, 9), (13, 0), (-9, 0), (12, 1)])

    def test_a_bound_that_is_not_whole(self):
        """The length is the root of 2, and 3 of it is 4.24.."""
        self.bound("1 1 0 0", 3, [(4, 4), (-3, -3), (-3, 3), (-2, 3), (5, 0), (5, 2), (4, -2)],
                   [(5, 4), (-4, -3), (-3, 4), (4, -3), (-3, 5), (6, 0)])

    def test_nearer_by_a_whole_numbers_least(self):
        """Crosses that differ by 1 at the farthest numbers."""
        hull = f"{FAR} {FAR - 1} 0 0"
        self.bound(hull, 0, [(0, 0), (FAR, FAR - 1)], [(1, 1), (1, 0), (FAR - 1, FAR - 2), (FAR - 1, FAR - 1)])


class Widths(ZoneCase):
    def test_k_0_the_place_is_on_the_straight(self):
        self.bound("4 2 0 0", 0, [(0, 0), (2, 1), (4, 2)], [(6, 3), (-2, -1), (1, 1), (1, 0), (3, 1), (0, 1)])

    def test_k_64(self):
        self.bound("1 0 0 0", 64, [(0, 64), (1, 64), (0, -64), (65, 0), (-64, 0)],
                   [(0, 65), (1, 65), (0, -65), (66, 0), (-65, 0), (-1, 64), (2, 64), (65, 1)])

    def test_k_64_at_the_farthest_places(self):
        self.bound(f"{-FAR} 32768 {-FAR} 0", 64, [(FAR, 0), (FAR, 10), (FAR, 32768)], [(FAR, 32769), (FAR, -1)])
        self.bound(f"{-FAR} 32767 {-FAR} 0", 64, [(FAR - 64, 10)], [(FAR, 10), (FAR - 63, 10)])

    def test_the_farthest_places(self):
        hull = f"{FAR} {FAR} {-FAR} {-FAR}"
        self.bound(hull, 0, [(FAR, FAR), (-FAR, -FAR), (0, 0)], [(FAR, -FAR), (-FAR, FAR), (FAR, FAR - 1)])
        self.bound(hull, 1, [(FAR, -FAR), (-FAR, FAR)], [])
        self.bound(f"{FAR} {FAR} {FAR} {FAR - 1}", 64, [(FAR, FAR - 65), (FAR - 64, FAR)],
                   [(FAR, FAR - 66), (FAR - 65, FAR), (-FAR, -FAR), (FAR, -FAR), (-FAR, FAR)])

    def test_each_k(self):
        log = "boat a\nwind 0 1\nat 3 4 0 0\n"
        for k in range(65):
            told = ask_of(log, zone(0, 0, 3 + 3 * k, 4 + 4 * k, k), zone(0, 0, 4 + 3 * k, 4 + 4 * k, k))
            self.assertEqual(told, [[1], [0]])


class Boats(unittest.TestCase):
    def test_of_boats_and_moments(self):
        log = two(("0 0 1 0", "9 9 9 8"), ("9 9 9 8", "0 5 0 0"))
        told = ask_of(log, zone(0, 0, 0, 1, 1), zone(1, 0, 0, 1, 1), zone(0, 1, 0, 1, 1), zone(1, 1, 0, 1, 1))
        self.assertEqual(told, [[1], [0], [0], [1]])

    def test_it_is_the_boats_own_length(self):
        log = two(("0 0 1 0", "0 0 5 0"))
        self.assertEqual(ask_of(log, zone(0, 0, -3, 0, 1), zone(1, 0, -3, 0, 1)), [[0], [1]])

    def test_a_whole_number_is_answered(self):
        told = ask_of(two(("0 0 1 0", "0 0 5 0")), zone(0, 0, 0, 0, 0), zone(0, 0, 9, 9, 0))
        self.assertEqual([type(answer[0]) for answer in told], [int, int])


class Refused(unittest.TestCase):
    def refused(self, i, m, x, y, k, answer):
        self.assertEqual(ask_of("boat a\nwind 0 1\nat 1 0 0 0\n", zone(i, m, x, y, k))[0], answer)

    def test_a_place_beyond(self):
        for number in (FAR + 1, -FAR - 1, LOWEST, HIGHEST):
            self.refused(0, 0, number, 0, 1, BEYOND)
            self.refused(0, 0, 0, number, 1, BEYOND)
            self.refused(0, 0, number, number, 0, BEYOND)
        for x, y in ((FAR, FAR), (-FAR, -FAR), (FAR, -FAR), (-FAR, FAR), (FAR, 0), (0, -FAR)):
            self.refused(0, 0, x, y, 64, [0])

    def test_k_above_64(self):
        for k in (65, 66, MOST):
            self.refused(0, 0, 0, 0, k, BEYOND)
        self.refused(0, 0, 0, 0, 64, [1])

    def test_beyond_before_no_such(self):
        self.refused(1, 0, FAR + 1, 0, 0, BEYOND)
        self.refused(0, 1, 0, -FAR - 1, 0, BEYOND)
        self.refused(1, 1, 0, 0, 65, BEYOND)
        self.refused(MOST, MOST, LOWEST, HIGHEST, MOST, BEYOND)
        self.assertEqual(ask(zone(0, 0, 0, 0, 65)), [BEYOND])

    def test_no_such_boat_or_moment(self):
        for i, m in ((1, 0), (0, 1), (1, 1), (MOST, 0), (0, MOST), (MOST, MOST)):
            self.refused(i, m, 0, 0, 0, NO_SUCH)
            self.refused(i, m, FAR, -FAR, 64, NO_SUCH)

    def test_without_boats_or_moments(self):
        self.assertEqual(ask(zone(0, 0, 0, 0, 0)), [NO_SUCH])
        self.assertEqual(ask_of("boat a\nwind 1 1\n", zone(0, 0, 0, 0, 0))[0], NO_SUCH)


if __name__ == "__main__":
    unittest.main()
