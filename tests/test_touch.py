"""touch: the first moment from m on at which two boats touch."""

import unittest

from tests.helper import MOST, ask, ask_of, touch, two

ONE = [-8]
NO_SUCH = [-4]
NONE = [-3]

APART = ("0 0 1 0", "0 5 1 5")
CROSSING = ("0 0 4 4", "0 4 4 0")
AT_AN_END = ("0 0 4 4", "4 4 9 8")
ALONG = ("0 0 4 2", "2 1 6 3")
ON_ONE_LINE = ("0 0 4 2", "6 3 8 4")
NEARLY = ("0 0 4 4", "3 2 5 0")


class TouchCase(unittest.TestCase):
    def told(self, log, *expected):
        """What touch tells of boats 0 and 1 from each moment on, in either order."""
        for i, j in ((0, 1), (1, 0)):
            asked = [touch(i, j, m) for m in range(len(expected))]
            self.assertEqual(ask_of(log, *asked), list(expected))


class WhenTheyTouch(TouchCase):
    def test_at_m_itself(self):
        for hulls in (CROSSING, AT_AN_END, ALONG):
            self.told(two(hulls), [0, 0], NO_SUCH)

    def test_at_a_later_moment(self):
        for hulls in (CROSSING, AT_AN_END):
            self.told(two(APART, APART, hulls), [0, 2], [0, 2], [0, 2], NO_SUCH)

    def test_the_first_of_several(self):
        log = two(APART, CROSSING, CROSSING, AT_AN_END, APART, AT_AN_END, APART)
        self.told(log, [0, 1], [0, 1], [0, 2], [0, 3], [0, 5], [0, 5], NONE, NO_SUCH)

    def test_none(self):
        self.told(two(APART, NEARLY, APART), NONE, NONE, NONE, NO_SUCH)
        self.told(two(ON_ONE_LINE), NONE, NO_SUCH)

    def test_before_m_alone(self):
        self.told(two(CROSSING, APART), [0, 0], NONE, NO_SUCH)

    def test_not_between_moments(self):
        """They go through one another from a moment to the next, but touch at neither."""
        self.told(two(("0 0 1 0", "5 0 6 0"), ("5 0 6 0", "0 0 1 0")), NONE, NONE)

    def test_places_of_different_moments_do_not_touch(self):
        self.told(two(("0 0 1 0", "5 5 6 5"), ("5 6 6 6", "0 1 1 1")), NONE, NONE)


class Boats(unittest.TestCase):
    def test_of_three_boats_each_two(self):
        log = ("boat a\nboat b\nboat c\nwind 0 -1\nat 0 0 1 0 5 0 5 1 9 9 8 9\nat 0 0 1 0 8 8 9 9 9 9 8 9\n"
               "at 0 0 1 0 0 1 0 0 9 9 8 9\nat 0 0 1 0 0 1 0 0 1 1 1 0\n")
        told = ask_of(log, touch(0, 1, 0), touch(1, 2, 0), touch(2, 0, 0), touch(2, 1, 2))
        self.assertEqual(told, [[0, 2], [0, 1], [0, 3], NONE])


class Refused(unittest.TestCase):
    def refused(self, i, j, m, answer):
        self.assertEqual(ask_of(two(APART, CROSSING, APART), touch(i, j, m))[0], answer)

    def test_one_boat(self):
        self.refused(0, 0, 0, ONE)
        self.refused(1, 1, 2, ONE)

    def test_one_boat_before_no_such(self):
        self.refused(0, 0, 3, ONE)
        self.refused(2, 2, 0, ONE)
        self.refused(MOST, MOST, MOST, ONE)
        self.assertEqual(ask(touch(0, 0, 0)), [ONE])

    def test_no_such_boat_or_moment(self):
        for i, j, m in ((0, 2, 0), (2, 0, 0), (2, 3, 0), (0, 1, 3), (0, MOST, 0), (MOST, 0, 0), (0, 1, MOST),
                        (1, 2, 3), (2, 1, 3), (0, 2, 2), (2, 0, 2)):
            self.refused(i, j, m, NO_SUCH)

    def test_without_boats_or_moments(self):
        self.assertEqual(ask(touch(0, 1, 0)), [NO_SUCH])
        self.assertEqual(ask_of("boat a\nboat b\nwind 1 1\n", touch(0, 1, 0))[0], NO_SUCH)


if __name__ == "__main__":
    unittest.main()
