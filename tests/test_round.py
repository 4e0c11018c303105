"""round: a boat's rounds from a moment to the same or a later one."""

import unittest

from tests.helper import FAR, MOST, ask, ask_of, rounds, turning

BACKWARDS = [-8]
NO_SUCH = [-4]
# Once round to the left, a quarter at a time.
QUARTERS = ((1, 0), (0, 1), (-1, 0), (0, -1))


def turned(quarters):
    """The headings of so many quarters to the left, or to the right if below 0."""
    step = 1 if quarters >= 0 else -1
    return [QUARTERS[step * k % 4] for k in range(abs(quarters) + 1)]


class RoundCase(unittest.TestCase):
    def from_first(self, headings, expected):
        """The rounds from moment 0 to each moment."""
        asked = [rounds(0, 0, k) for k in range(len(expected))]
        self.assertEqual(ask_of(turning(*headings), *asked), [[0, count] for count in expected])


class Turns(RoundCase):
    def test_to_the_same_moment(self):
        told = ask_of(turning(*turned(5)), *[rounds(0, m, m) for m in range(6)])
        self.assertEqual(told, [[0, 0]] * 6)

    def test_straight_on(self):
        self.from_first([(2, 1), (2, 1), (4, 2), (2, 1)], [0, 0, 0, 0])

    def test_to_the_left(self):
        self.from_first(turned(4), [0, 0, 0, 0, 1])

    def test_to_the_right(self):
        self.from_first(turned(-4), [0, -1, -1, -1, -1])
        self.from_first(turned(-5), [0, -1, -1, -1, -1, -2])

    def test_more_than_one_whole_turn(self):
        self.from_first(turned(13), [0] * 4 + [1] * 4 + [2] * 4 + [3] * 2)
        self.from_first(turned(-13), [0] + [-1] * 4 + [-2] * 4 + [-3] * 4 + [-4])

    def test_from_each_moment(self):
        log = turning(*turned(9))
        for m in range(10):
            told = ask_of(log, *[rounds(0, m, k) for k in range(m, 10)])
            self.assertEqual(told, [[0, (k - m) // 4] for k in range(m, 10)])

    def test_from_each_moment_to_the_right(self):
        log = turning(*turned(-9))
        for m in range(10):
            told = ask_of(log, *[rounds(0, m, k) for k in range(m, 10)])
            self.assertEqual(told, [[0, -((k - m + 3) // 4)] for k in range(m, 10)])

    def test_steps_of_nearly_a_half(self):
        self.from_first([(1, 0), (-9, 1), (9, -2), (-9, 3), (9, -4)], [0, 0, 0, 1, 1])
        self.from_first([(1, 0), (-9, -1), (9, 2), (-9, -3), (9, 4)], [0, -1, -1, -2, -2])

    def test_to_and_fro(self):
        self.from_first([(1, 0), (1, -1), (1, 1), (1, -1), (1, 0)], [0, -1, 0, -1, 0])
        self.from_first([(1, 0), (-1, 1), (-1, -1), (-1, 1), (1, 0)], [0, 0, 0, 0, 0])


class JustAlongAndAgainst(RoundCase):
    def test_r_itself_is_on_the_left(self):
        self.from_first([(2, 1), (3, 1), (2, 1)], [0, -1, 0])
        self.from_first([(2, 1), (3, 1), (4, 2)], [0, -1, 0])
        self.from_first([(2, 1), (3, 1), (4, 2), (1, 1), (4, 2), (3, 1)], [0, -1, 0, 0, 0, -1])

    def test_just_against_r_is_on_the_right(self):
        self.from_first([(1, 0), (0, 1), (-5, 0), (0, -1), (7, 0)], [0, 0, 0, 0, 1])
        self.from_first([(1, 0), (0, -1), (-5, 0), (0, 1), (7, 0)], [0, -1, -1, -1, -1])

    def test_past_the_half_is_not_past_r(self):
        """From the left to the right by a turn to the left, and from the right to the left by one to the right."""
        self.from_first([(1, 0), (-1, 1), (-1, -1)], [0, 0, 0])
        self.from_first([(1, 0), (1, -1), (-1, -1), (-1, 1)], [0, -1, -1, -1])
        self.from_first([(1, 0), (-1, 1), (-1, 0), (-1, 1)], [0, 0, 0, 0])

    def test_hardly_beside_r_at_the_farthest_places(self):
        r, beside = (FAR, FAR - 1), (FAR - 1, FAR - 2)
        self.from_first([r, beside, r], [0, -1, 0])
        self.from_first([beside, r, beside], [0, 0, 0])


class Boats(RoundCase):
    def test_boats_do_not_mix(self):
        log = "boat a\nboat b\nwind 1 1\nat 1 0 0 0 1 0 0 0\nat 0 1 0 0 0 -1 0 0\n"
        self.assertEqual(ask_of(log, rounds(0, 0, 1), rounds(1, 0, 1)), [[0, 0], [0, -1]])

    def test_heading_not_place(self):
        log = "boat a\nwind 1 1\nat 5 5 4 5\nat -5 5 -5 6\nat -5 -5 -4 -5\nat 5 -5 5 -6\nat 8 8 7 8\n"
        self.assertEqual(ask_of(log, *[rounds(0, 0, k) for k in range(5)]),
                         [[0, 0], [0, -1], [0, -1], [0, -1], [0, -1]])

    def test_the_wind_is_nothing_to_it(self):
        log = turning((1, 0), "wind 5 5\n", (0, 1), "wind 1 0\n", (-1, 0), (0, -1), "wind -7 0\n", (1, 0))
        self.assertEqual(ask_of(log, rounds(0, 0, 4))[0], [0, 1])


class Refused(unittest.TestCase):
    def refused(self, i, m, k, answer):
        self.assertEqual(ask_of(turning(*turned(2)), rounds(i, m, k))[0], answer)

    def test_k_below_m(self):
        for m, k in ((1, 0), (2, 0), (2, 1)):
            self.refused(0, m, k, BACKWARDS)

    def test_k_below_m_before_no_such(self):
        self.refused(1, 1, 0, BACKWARDS)
        self.refused(0, 3, 2, BACKWARDS)
        self.refused(0, 4, 3, BACKWARDS)
        self.refused(MOST, MOST, 0, BACKWARDS)
        self.refused(0, MOST, MOST - 1, BACKWARDS)
        self.assertEqual(ask(rounds(0, 1, 0)), [BACKWARDS])

    def test_no_such_boat_or_moment(self):
        for i, m, k in ((1, 0, 0), (1, 0, 2), (0, 0, 3), (0, 2, 3), (0, 3, 3), (0, 0, MOST), (0, MOST, MOST),
                        (MOST, 0, 0), (MOST, MOST, MOST), (1, 3, 3)):
            self.refused(i, m, k, NO_SUCH)
        self.refused(0, 2, 2, [0, 0])

    def test_without_boats_or_moments(self):
        self.assertEqual(ask(rounds(0, 0, 0)), [NO_SUCH])
        self.assertEqual(ask_of("boat a\nwind 1 1\n", rounds(0, 0, 0))[0], NO_SUCH)


if __name__ == "__main__":
    unittest.main()
