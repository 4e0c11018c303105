"""pair: of two boats at a moment who's clear astern, who's to leeward, and whether they touch."""

import unittest

from tests.helper import FAR, MOST, ask, ask_of, pair, two

ONE = [-8]
NO_SUCH = [-4]


class PairCase(unittest.TestCase):
    def told(self, one, other, wind="0 -1"):
        """The three things told of boats 0 and 1; of 1 and 0 they're told the other way round."""
        there, back = ask_of(two((one, other), wind=wind), pair(0, 1, 0), pair(1, 0, 0))
        self.assertEqual((there[0], back[0]), (0, 0))
        swapped = {0: 0, 1: 2, 2: 1, 3: 3}
        self.assertEqual(back[1:], [swapped[there[1]], swapped[there[2]], there[3]])
        return there[1:]

    def astern(self, one, other, expected):
        self.assertEqual(self.told(one, other)[0], expected, (one, other))

    def leeward(self, one, other, wind, expected):
        self.assertEqual(self.told(one, other, wind)[1], expected, (one, other, wind))

    def touch(self, one, other, expected):
        """Whether they touch hangs on no order: of the boats, of bow and stern."""
        for first in (one, back(one)):
            for second in (other, back(other)):
                self.assertEqual(self.told(first, second)[2], expected, (first, second))


def back(hull):
    """The hull with bow and stern in each other's place."""
    numbers = hull.split()
    return " ".join(numbers[2:] + numbers[:2])


class ClearAstern(PairCase):
    def test_one_way_and_the_other(self):
        self.astern("0 2 0 1", "0 6 0 5", 1)
        self.astern("0 6 0 5", "0 2 0 1", 2)

    def test_neither(self):
        self.astern("0 2 0 1", "5 2 5 1", 0)
        self.astern("0 2 0 1", "0 4 0 1", 0)

    def test_each_of_the_other(self):
        """Stern towards stern."""
        self.astern("0 2 0 1", "0 -2 0 -1", 3)
        self.astern("6 9 5 2", "-5 -9 -5 -2", 3)

    def test_bow_towards_bow(self):
        self.astern("0 1 0 2", "0 -1 0 -2", 0)

    def test_level_with_the_stern_is_not_clear(self):
        self.astern("3 5 3 0", "0 9 0 5", 0)
        self.astern("3 4 3 0", "0 9 0 5", 1)

    def test_both_its_places(self):
        """The bow alone, or the stern alone, is behind."""
        self.astern("3 3 4 8", "0 9 0 5", 0)
        self.astern("4 8 3 3", "0 9 0 5", 0)
        self.astern("3 3 4 5", "0 9 0 5", 0)
        self.astern("4 5 3 3", "0 9 0 5", 0)

    def test_by_the_others_heading_not_its_own(self):
        self.astern("-3 -1 -4 -1", "0 1 0 0", 1)
        self.astern("4 -1 3 -1", "0 1 0 0", 3)
        self.astern("-9 -1 3 -1", "0 1 0 0", 1)
        self.astern("-9 -1 3 -1", "0 1 -1 0", 0)

    def test_aslant_and_far(self):
        self.astern(f"{1 - FAR} {-FAR} {-FAR} {-FAR}", f"{FAR} {FAR} {FAR} {FAR - 1}", 1)
        self.astern("1 -2 2 -4", "2 1 0 0", 0)
        self.astern("1 -3 2 -5", "2 1 0 0", 1)


class ToLeeward(PairCase):
    def test_both_ways(self):
        self.leeward("0 9 0 8", "0 2 0 1", "0 -1", 1)
        self.leeward("0 9 0 8", "0 2 0 1", "0 1", 2)
        self.leeward("0 2 0 1", "0 9 0 8", "0 -1", 2)

    def test_the_middles_level(self):
        self.leeward("0 2 0 1", "5 2 5 1", "0 -1", 0)
        self.leeward("0 9 0 1", "5 4 5 6", "0 -1", 0)
        self.leeward("0 0 2 2", "3 -3 2 2", "1 1", 0)
        self.leeward("0 0 2 2", "4 0 1 -1", "1 1", 0)

    def test_middles_count_and_not_bows_or_sterns(self):
        self.leeward("0 10 0 0", "5 9 5 2", "0 1", 1)
        self.leeward("0 0 0 10", "5 2 5 9", "0 1", 1)
        self.leeward("0 10 0 1", "5 11 5 -1", "0 -1", 1)

    def test_by_half_a_step(self):
        """The middles are half a step apart."""
        self.leeward("0 0 0 1", "5 0 5 2", "0 1", 1)
        self.leeward("0 0 0 1", "5 0 5 2", "0 -7", 2)

    def test_the_moments_own_wind(self):
        log = two(("0 9 0 8", "0 2 0 1"), wind="0 -1") + "wind 0 1\nat 0 9 0 8 0 2 0 1\nwind 1 0\n"
        told = ask_of(log, pair(0, 1, 0), pair(0, 1, 1))
        self.assertEqual(told, [[0, 2, 1, 0], [0, 2, 2, 0]])

    def test_far(self):
        wind = f"{FAR} {1 - FAR}"
        self.leeward(f"{FAR} {FAR} {FAR - 1} {FAR - 1}", f"{-FAR} {-FAR} {1 - FAR} {1 - FAR}", wind, 2)
        self.leeward(f"{FAR} {FAR} {FAR - 1} {FAR}", f"{FAR} {FAR} {FAR} {FAR - 1}", wind, 1)


class Touching(PairCase):
    def test_at_an_end(self):
        self.touch("0 0 2 2", "2 2 5 0", 1)
        self.touch("0 0 4 4", "2 2 5 0", 1)
        self.touch("0 0 4 0", "2 0 2 9", 1)
        self.touch("0 0 4 0", "4 0 9 0", 1)

    def test_crossing(self):
        self.touch("0 0 4 4", "0 4 4 0", 1)
        self.touch("0 0 1 1", "0 1 1 0", 1)
        self.touch("0 -5 0 5", "-5 0 5 0", 1)
        self.touch("0 0 7 2", "3 2 4 -1", 1)

    def test_along_one_another(self):
        self.touch("0 0 4 2", "2 1 6 3", 1)
        self.touch("0 0 6 3", "2 1 4 2", 1)
        self.touch("0 0 6 3", "0 0 6 3", 1)
        self.touch("0 0 6 3", "0 0 2 1", 1)
        self.touch("0 0 0 4", "0 3 0 9", 1)

    def test_on_one_line_but_apart(self):
        self.touch("0 0 4 2", "6 3 8 4", 0)
        self.touch("0 0 0 4", "0 5 0 9", 0)
        self.touch("0 0 4 0", "5 0 9 0", 0)
        self.touch("0 0 3 -3", "4 -4 5 -5", 0)

    def test_side_by_side(self):
        self.touch("0 0 4 2", "0 1 4 3", 0)
        self.touch("0 0 4 0", "0 1 4 1", 0)

    def test_just_not(self):
        self.touch("0 0 4 4", "3 2 5 0", 0)
        self.touch("0 0 4 4", "3 2 9 9", 0)
        self.touch("0 0 4 0", "2 1 2 9", 0)
        self.touch("0 0 4 0", "5 0 5 9", 0)
        self.touch("0 0 4 0", "5 -1 5 1", 0)
        self.touch("0 0 9 1", "10 0 10 2", 0)

    def test_the_line_of_one_is_crossed_but_not_its_straight(self):
        self.touch("0 0 1 1", "0 8 8 0", 0)
        self.touch("0 0 3 3", "7 0 0 7", 0)
        self.touch("0 0 4 4", "7 0 0 7", 1)

    def test_hardly_beside_at_the_farthest_places(self):
        long = f"{FAR} {FAR - 1} {-FAR} {1 - FAR}"
        self.touch(long, "0 0 0 9", 1)
        self.touch(long, "1 1 0 9", 0)
        self.touch(long, "1 0 9 0", 0)
        self.touch(long, "1 0 1 1", 1)
        self.touch(f"{FAR} {FAR} {-FAR} {-FAR}", f"{-FAR} {FAR} {FAR} {-FAR}", 1)

    def test_all_three_are_whole_numbers(self):
        for hulls in (("0 2 0 1", "0 6 0 5"), ("0 0 4 4", "0 4 4 0")):
            told = ask_of(two(hulls), pair(0, 1, 0))[0]
            self.assertEqual({type(number) for number in told}, {int})


class Boats(unittest.TestCase):
    def test_of_three_boats_and_two_moments(self):
        log = ("boat a\nboat b\nboat c\nwind 0 -1\nat 0 2 0 1 0 6 0 5 0 -2 0 -1\n"
               "at 0 2 0 1 0 1 0 0 9 9 8 8\n")
        told = ask_of(log, pair(0, 1, 0), pair(0, 2, 0), pair(2, 1, 0), pair(0, 1, 1), pair(1, 2, 1))
        self.assertEqual(told, [[0, 1, 2, 0], [0, 3, 1, 0], [0, 3, 2, 0], [0, 0, 1, 1], [0, 1, 2, 0]])


class Refused(unittest.TestCase):
    def refused(self, i, j, m, answer):
        self.assertEqual(ask_of(two(("0 2 0 1", "0 6 0 5")), pair(i, j, m))[0], answer)

    def test_one_boat(self):
        self.refused(0, 0, 0, ONE)
        self.refused(1, 1, 0, ONE)

    def test_one_boat_before_no_such(self):
        self.refused(0, 0, 1, ONE)
        self.refused(2, 2, 0, ONE)
        self.refused(MOST, MOST, MOST, ONE)
        self.assertEqual(ask(pair(0, 0, 0)), [ONE])

    def test_no_such_boat_or_moment(self):
        for i, j, m in ((0, 2, 0), (2, 0, 0), (2, 3, 0), (0, 1, 1), (0, MOST, 0), (MOST, 0, 0), (0, 1, MOST),
                        (1, 2, 1), (2, 1, 1)):
            self.refused(i, j, m, NO_SUCH)

    def test_without_boats_or_moments(self):
        self.assertEqual(ask(pair(0, 1, 0)), [NO_SUCH])
        self.assertEqual(ask_of("boat a\nboat b\nwind 1 1\n", pair(0, 1, 0))[0], NO_SUCH)


if __name__ == "__main__":
    unittest.main()
