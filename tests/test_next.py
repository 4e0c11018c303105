"""next: the first moment behind m at which a boat's tack is another, and whether it tacks or gybes."""

import unittest

from tests.helper import MOST, ask, ask_of, next_change, tack, turning

NONE = [-3]
NO_SUCH = [-4]
# The wind blows to the south: these head into it or away from it, on port to the east and on starboard to the west.
UP_EAST, UP, UP_WEST = (1, 1), (0, 1), (-1, 1)
DOWN_EAST, DOWN, DOWN_WEST = (1, -1), (0, -1), (-1, -1)
EAST, WEST = (1, 0), (-1, 0)


def tacks_at(m):
    return [0, m, 1]


def gybes_at(m):
    return [0, m, 2]


class NextCase(unittest.TestCase):
    def told(self, log, *expected):
        """What next tells of boat 0 from each moment on."""
        asked = [next_change(0, m) for m in range(len(expected))]
        self.assertEqual(ask_of(log, *asked), list(expected))


class TacksAndGybes(NextCase):
    def test_through_the_wind(self):
        self.told(turning(UP_EAST, UP_WEST), tacks_at(1), NONE)
        self.told(turning(UP_WEST, UP_EAST), tacks_at(1), NONE)

    def test_away_from_the_wind(self):
        self.told(turning(DOWN_EAST, DOWN_WEST), gybes_at(1), NONE)
        self.told(turning(DOWN_WEST, DOWN_EAST), gybes_at(1), NONE)

    def test_no_change(self):
        self.told(turning(UP_EAST, EAST, DOWN_EAST, (9, 2)), NONE, NONE, NONE, NONE)
        self.told(turning(UP_WEST, WEST, DOWN_WEST), NONE, NONE, NONE)

    def test_the_first_of_several(self):
        log = turning(UP_EAST, UP_EAST, UP_WEST, UP_WEST, DOWN_WEST, DOWN_EAST, UP_EAST)
        self.told(log, tacks_at(2), tacks_at(2), gybes_at(5), gybes_at(5), gybes_at(5), NONE, NONE)

    def test_not_at_m_itself(self):
        self.told(turning(UP_EAST, UP_WEST, UP_EAST), tacks_at(1), tacks_at(2), NONE)

    def test_moment_0_is_no_change(self):
        """On port at moment 0 though the tack before is starboard."""
        self.told(turning(UP_EAST), NONE)
        self.told(turning(UP_EAST, UP_EAST), NONE, NONE)

    def test_into_the_wind_at_one_of_the_two_moments_alone(self):
        self.told(turning(UP_EAST, (-3, -1)), tacks_at(1), NONE)
        self.told(turning(DOWN_EAST, (-3, 1)), tacks_at(1), NONE)
        self.told(turning(UP_WEST, (3, -1)), tacks_at(1), NONE)
        self.told(turning(DOWN_WEST, (3, 1)), tacks_at(1), NONE)

    def test_across_the_wind_is_not_into_it(self):
        """A dot of 0 at both moments, or 0 and above it, is a gybe; 0 and below it is a tack."""
        self.told(turning(EAST, DOWN_WEST), gybes_at(1), NONE)
        self.told(turning(DOWN_EAST, WEST), gybes_at(1), NONE)
        self.told(turning(EAST, UP_WEST), tacks_at(1), NONE)
        self.told(turning(UP_EAST, WEST), tacks_at(1), NONE)
        self.told(turning(EAST, "wind 0 1\n", EAST), gybes_at(1), NONE)


class AlongTheWind(NextCase):
    def test_the_tack_of_before_is_kept(self):
        self.told(turning(UP_EAST, UP, UP, UP_EAST), NONE, NONE, NONE, NONE)
        self.told(turning(UP_WEST, UP, UP_WEST), NONE, NONE, NONE)
        self.told(turning(DOWN_EAST, DOWN, DOWN_EAST), NONE, NONE, NONE)

    def test_the_change_is_where_it_points_elsewhere(self):
        self.told(turning(UP_EAST, UP, UP, UP_WEST), tacks_at(3), tacks_at(3), tacks_at(3), NONE)
        self.told(turning(DOWN_EAST, DOWN, DOWN_WEST), gybes_at(2), gybes_at(2), NONE)

    def test_only_the_two_moments_count(self):
        """It pointed into the wind before, but at neither of the two moments of the change."""
        self.told(turning(UP_EAST, EAST, DOWN_EAST, DOWN, DOWN_WEST, UP_WEST), *[gybes_at(4)] * 4, NONE, NONE)

    def test_along_the_wind_at_moment_0_is_starboard(self):
        self.told(turning(UP, UP_WEST), NONE, NONE)
        self.told(turning(UP, UP_EAST), tacks_at(1), NONE)
        self.told(turning(DOWN, DOWN_WEST), NONE, NONE)
        self.told(turning(DOWN, DOWN_EAST), gybes_at(1), NONE)


class ChangeOfWind(NextCase):
    def test_the_wind_alone_changes_the_tack(self):
        self.told(turning(UP_EAST, "wind 2 -1\n", UP_EAST), NONE, NONE)
        self.told(turning(UP_EAST, "wind -2 1\n", UP_EAST), tacks_at(1), NONE)
        self.told(turning(DOWN_EAST, "wind 2 -1\n", DOWN_EAST), gybes_at(1), NONE)

    def test_each_moment_has_its_own_wind(self):
        """Into the wind of its own moment at the first, or at the second, or at neither."""
        self.told(turning((2, 1), "wind 0 1\n", (2, 1)), tacks_at(1), NONE)
        self.told(turning((2, -1), "wind 0 1\n", (2, -1)), tacks_at(1), NONE)
        self.told(turning((2, -1), "wind 0 1\n", (2, 1)), gybes_at(1), NONE)
        self.told(turning((2, 1), "wind 0 1\n", (2, -1)), tacks_at(1), NONE)

    def test_the_wind_turns_along_the_heading(self):
        self.told(turning(UP_EAST, "wind -1 -1\n", UP_EAST, "wind 1 1\n", UP_EAST), NONE, NONE, NONE)
        self.told(turning(UP_EAST, "wind -1 -1\n", UP_EAST, "wind -1 0\n", UP_EAST), tacks_at(2), tacks_at(2), NONE)

    def test_of_several_winds_the_last_counts(self):
        self.told(turning(UP_EAST, "wind -1 0\nwind 0 -1\n", UP_EAST), NONE, NONE)

    def test_a_wind_behind_the_last_moment(self):
        self.told(turning(UP_EAST, "wind -1 0\n"), NONE)


class Boats(NextCase):
    def test_boats_do_not_mix(self):
        log = ("boat a\nboat b\nwind 0 -1\nat 1 1 0 0 1 -1 0 0\nat 1 1 0 0 -1 -1 0 0\nat -1 1 0 0 -1 -1 0 0\n")
        told = ask_of(log, next_change(0, 0), next_change(1, 0), next_change(1, 1))
        self.assertEqual(told, [tacks_at(2), gybes_at(1), NONE])

    def test_heading_not_place(self):
        log = "boat a\nwind 0 -1\nat -4 -4 -5 -5\nat 7 -6 8 -7\n"
        self.assertEqual(ask_of(log, tack(0, 0), tack(0, 1), next_change(0, 0)), [[2], [1], tacks_at(1)])


class Refused(NextCase):
    def test_none_behind_the_last_moment(self):
        self.told(turning(UP_EAST, UP_WEST), tacks_at(1), NONE, NO_SUCH)

    def test_no_such_boat_or_moment(self):
        log = turning(UP_EAST, UP_WEST)
        for i, m in ((1, 0), (0, 2), (1, 2), (MOST, 0), (0, MOST), (MOST, MOST), (1, 1)):
            self.assertEqual(ask_of(log, next_change(i, m))[0], NO_SUCH)

    def test_without_boats_or_moments(self):
        self.assertEqual(ask(next_change(0, 0)), [NO_SUCH])
        self.assertEqual(ask_of("boat a\nwind 1 1\n", next_change(0, 0))[0], NO_SUCH)


if __name__ == "__main__":
    unittest.main()
