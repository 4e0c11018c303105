"""over: the first moment from m on from which to the next a boat's bow goes over a line, and when."""

import unittest

from tests.helper import FAR, HIGHEST, LOWEST, MOST, ask, ask_of, over, sailing

BEYOND = [-8]
NO_SUCH = [-4]
NONE = [-3]
# A line to the east: the north is on its left.
LINE = (0, 0, 10, 0)


class OverCase(unittest.TestCase):
    def told(self, bows, line, *expected):
        """What over tells of the line from each moment on."""
        asked = [over(0, m, *line) for m in range(len(expected))]
        self.assertEqual(ask_of(sailing(*bows), *asked), list(expected))


class FromSideToSide(OverCase):
    def test_from_the_right_to_the_left(self):
        self.told([(5, -1), (5, 1)], LINE, [0, 0, 1, 2], NONE)
        self.told([(4, -3), (6, 1)], LINE, [0, 0, 3, 4], NONE)

    def test_from_on_the_line_to_the_left(self):
        self.told([(5, 0), (5, 1)], LINE, [0, 0, 0, 1], NONE)
        self.told([(5, 0), (9, 7)], LINE, [0, 0, 0, 1], NONE)

    def test_from_the_left_to_the_right(self):
        self.told([(5, 1), (5, -1)], LINE, NONE, NONE)

    def test_from_the_left_to_the_left(self):
        self.told([(5, 1), (5, 2)], LINE, NONE, NONE)
        self.told([(5, 1), (5, 2)], (5, 0, 6, 0), NONE, NONE)

    def test_from_the_right_to_on_the_line_is_not_yet_over(self):
        self.told([(5, -1), (5, 0)], LINE, NONE, NONE)
        self.told([(5, -1), (5, 0), (5, 1)], LINE, [0, 1, 0, 1], [0, 1, 0, 1], NONE)

    def test_from_the_right_to_on_the_line_and_back(self):
        self.told([(5, -1), (5, 0), (5, -1)], LINE, NONE, NONE, NONE)

    def test_from_the_left_to_on_the_line_and_back(self):
        self.told([(5, 1), (5, 0), (5, 1)], LINE, [0, 1, 0, 1], [0, 1, 0, 1], NONE)

    def test_along_the_line(self):
        self.told([(2, 0), (5, 0), (9, 0)], LINE, NONE, NONE, NONE)
        self.told([(2, 0), (5, 0), (6, 1)], LINE, [0, 1, 0, 1], [0, 1, 0, 1], NONE)

    def test_at_rest(self):
        self.told([(5, 0), (5, 0)], LINE, NONE, NONE)
        self.told([(5, -1), (5, -1), (5, 1)], LINE, [0, 1, 1, 2], [0, 1, 1, 2], NONE)

    def test_the_line_the_other_way(self):
        back = (10, 0, 0, 0)
        self.told([(5, 1), (5, -1)], back, [0, 0, 1, 2], NONE)
        self.told([(5, -1), (5, 1)], back, NONE, NONE)

    def test_a_line_to_the_north(self):
        """Its left is the west."""
        north = (3, -4, 3, 4)
        self.told([(4, 0), (1, 0)], north, [0, 0, 1, 3], NONE)
        self.told([(1, 0), (4, 0)], north, NONE, NONE)


class PastTheEnds(OverCase):
    def test_past_p(self):
        self.told([(-1, -1), (-1, 1)], LINE, NONE, NONE)
        self.told([(-2, -2), (1, 1)], LINE, [0, 0, 2, 3], NONE)
        self.told([(-3, -2), (1, 1)], LINE, NONE, NONE)
        self.told([(1, -2), (-2, 1)], LINE, NONE, NONE)

    def test_past_q(self):
        self.told([(11, -1), (11, 1)], LINE, NONE, NONE)
        self.told([(11, -1), (8, 1)], LINE, [0, 0, 1, 2], NONE)
        self.told([(9, -1), (12, 1)], LINE, NONE, NONE)

    def test_just_through_p_and_q(self):
        self.told([(0, -1), (0, 1)], LINE, [0, 0, 1, 2], NONE)
        self.told([(-1, -1), (1, 1)], LINE, [0, 0, 1, 2], NONE)
        self.told([(10, -1), (10, 1)], LINE, [0, 0, 1, 2], NONE)
        self.told([(12, -4), (9, 2)], LINE, [0, 0, 2, 3], NONE)

    def test_from_p_and_q_themselves(self):
        self.told([(0, 0), (5, 5)], LINE, [0, 0, 0, 1], NONE)
        self.told([(0, 0), (-5, 5)], LINE, [0, 0, 0, 1], NONE)
        self.told([(10, 0), (0, 1)], LINE, [0, 0, 0, 1], NONE)
        self.told([(10, 0), (90, 1)], LINE, [0, 0, 0, 1], NONE)

    def test_from_on_the_line_beyond_p_and_q(self):
        self.told([(-1, 0), (5, 5)], LINE, NONE, NONE)
        self.told([(11, 0), (5, 5)], LINE, NONE, NONE)

    def test_both_places_beside_but_the_way_between(self):
        self.told([(-5, -5), (15, 15)], LINE, [0, 0, 1, 4], NONE)
        self.told([(-1, -9), (11, 9)], LINE, [0, 0, 1, 2], NONE)

    def test_hardly_past_at_the_farthest_places(self):
        way = [(-FAR, -FAR), (FAR, FAR - 1)]
        self.told(way, (0, 0, FAR, 0), [0, 0, FAR, 2 * FAR - 1], NONE)
        self.told(way, (1, 0, FAR, 0), NONE, NONE)
        self.told(way, (-1, 0, 0, 0), NONE, NONE)
        self.told(way, (-1, 0, 1, 0), [0, 0, FAR, 2 * FAR - 1], NONE)


class When(OverCase):
    def test_lowest_terms(self):
        self.told([(5, -6), (5, 4)], LINE, [0, 0, 3, 5], NONE)
        self.told([(5, -6), (5, 6)], LINE, [0, 0, 1, 2], NONE)
        self.told([(5, -1), (5, 6)], LINE, [0, 0, 1, 7], NONE)
        self.told([(5, -7), (5, 5)], LINE, [0, 0, 7, 12], NONE)
        self.told([(5, -12), (5, 6)], LINE, [0, 0, 2, 3], NONE)

    def test_the_lines_length_does_not_matter(self):
        for far in (6, 7, 10, 1000, FAR):
            self.told([(5, -6), (5, 4)], (-far, 0, far, 0), [0, 0, 3, 5], NONE)

    def test_a_line_aslant(self):
        self.told([(3, 0), (0, 3)], (0, 0, 3, 3), [0, 0, 1, 2], NONE)
        self.told([(3, 0), (0, 2)], (0, 0, 3, 3), [0, 0, 3, 5], NONE)
        self.told([(3, 1), (0, 2)], (-1, -1, 3, 3), [0, 0, 1, 2], NONE)

    def test_large_terms(self):
        line = (-FAR, -FAR, FAR, FAR - 1)
        c, d = (FAR, -FAR), (-FAR, FAR)
        s, t = 4 * FAR * FAR - 2 * FAR, 4 * FAR * FAR
        self.assertEqual(s, -((2 * FAR) * 0 - (2 * FAR - 1) * (2 * FAR)))
        self.told([c, d], line, [0, 0, 2 * FAR - 1, 4 * FAR - 1], NONE)
        self.assertEqual(s * (4 * FAR - 1), (s + t) * (2 * FAR - 1))


class Moments(OverCase):
    def test_the_first_from_m_on(self):
        bows = [(5, 3), (5, -1), (5, 3), (5, -2), (5, -1), (5, 1)]
        first, second = [0, 1, 1, 4], [0, 4, 1, 2]
        self.told(bows, LINE, first, first, second, second, second, NONE, NO_SUCH)

    def test_m_itself(self):
        self.told([(5, -1), (5, 1), (5, -1), (5, 2)], LINE, [0, 0, 1, 2], [0, 2, 1, 3], [0, 2, 1, 3], NONE)

    def test_from_before_m_is_none(self):
        self.told([(5, -1), (5, 1), (5, 2), (5, 3)], LINE, [0, 0, 1, 2], NONE, NONE, NONE)

    def test_past_the_ends_first_and_between_later(self):
        self.told([(11, -1), (11, 1), (5, -1), (5, 1)], LINE, [0, 2, 1, 2], [0, 2, 1, 2], [0, 2, 1, 2], NONE)

    def test_round_the_end_over_the_moments_is_not_over(self):
        self.told([(5, -1), (11, -1), (11, 1), (5, 1)], LINE, NONE, NONE, NONE, NONE)

    def test_one_moment_alone(self):
        self.told([(5, 1)], LINE, NONE, NO_SUCH)
        self.told([(5, 0)], LINE, NONE, NO_SUCH)

    def test_only_from_one_moment_to_the_very_next(self):
        self.told([(20, -1), (20, 1), (5, 1)], LINE, NONE, NONE, NONE)


class TheBowAlone(unittest.TestCase):
    def test_the_stern_goes_over_and_the_bow_does_not(self):
        log = "boat a\nwind 0 -1\nat 5 3 5 -1\nat 5 4 5 1\n"
        self.assertEqual(ask_of(log, over(0, 0, *LINE))[0], NONE)

    def test_the_bow_goes_over_and_the_stern_does_not(self):
        log = "boat a\nwind 0 -1\nat 5 -1 5 -2\nat 5 1 5 -1\n"
        self.assertEqual(ask_of(log, over(0, 0, *LINE))[0], [0, 0, 1, 2])

    def test_the_hull_lies_over_the_line_all_the_time(self):
        log = "boat a\nwind 0 -1\nat 5 3 5 -3\nat 6 3 6 -3\n"
        self.assertEqual(ask_of(log, over(0, 0, *LINE))[0], NONE)

    def test_boats_do_not_mix(self):
        log = "boat a\nboat b\nwind 0 -1\nat 5 -1 5 -2 5 1 5 2\nat 5 -1 5 -2 5 2 5 3\nat 5 2 5 1 5 -1 5 0\n"
        told = ask_of(log, over(0, 0, *LINE), over(1, 0, *LINE), over(1, 0, 10, 0, 0, 0))
        self.assertEqual(told, [[0, 1, 1, 3], NONE, [0, 1, 2, 3]])


class Refused(unittest.TestCase):
    def refused(self, i, m, line, answer):
        self.assertEqual(ask_of(sailing((5, -1), (5, 1)), over(i, m, *line))[0], answer)

    def test_a_place_beyond(self):
        for number in (FAR + 1, -FAR - 1, LOWEST, HIGHEST):
            for k in range(4):
                line = list(LINE)
                line[k] = number
                self.refused(0, 0, line, BEYOND)
        self.refused(0, 0, (-FAR, 0, FAR, 0), [0, 0, 1, 2])
        self.refused(0, 0, (-FAR, -FAR, FAR, FAR), NONE)
        self.refused(0, 0, (5, FAR, 5, -FAR), NONE)

    def test_a_line_of_one_place(self):
        for x, y in ((0, 0), (5, 0), (5, -1), (-7, 7), (FAR, FAR)):
            self.refused(0, 0, (x, y, x, y), BEYOND)
        self.refused(0, 0, (5, 0, 6, 0), [0, 0, 1, 2])
        self.refused(0, 0, (5, 0, 5, 1), NONE)

    def test_beyond_and_one_place_before_no_such_and_none(self):
        self.refused(1, 0, (0, 0, FAR + 1, 0), BEYOND)
        self.refused(0, 2, (0, 0, 0, 0), BEYOND)
        self.refused(0, 1, (3, 3, 3, 3), BEYOND)
        self.refused(0, 1, (3, 3, 3, -FAR - 1), BEYOND)
        self.refused(MOST, MOST, (LOWEST, HIGHEST, LOWEST, HIGHEST), BEYOND)
        self.assertEqual(ask(over(0, 0, 1, 1, 1, 1)), [BEYOND])

    def test_no_such_boat_or_moment(self):
        for i, m in ((1, 0), (0, 2), (1, 2), (1, 1), (MOST, 0), (0, MOST), (MOST, MOST)):
            self.refused(i, m, LINE, NO_SUCH)
            self.refused(i, m, (-FAR, FAR, FAR, -FAR), NO_SUCH)

    def test_none_from_the_last_moment(self):
        self.refused(0, 1, LINE, NONE)

    def test_without_boats_or_moments(self):
        self.assertEqual(ask(over(0, 0, *LINE)), [NO_SUCH])
        self.assertEqual(ask_of("boat a\nwind 1 1\n", over(0, 0, *LINE))[0], NO_SUCH)


if __name__ == "__main__":
    unittest.main()
