"""text, sizes, name, boat, tack: what is told of the held log."""

import unittest

from tests.helper import FLEET, MOST, ask, ask_last, boat, hulls, more, name, numbered, signs, sizes, tack, take, text
from tests.helper import text_told

REFUSED = [-4]
STARBOARD = [1]
PORT = [2]


class Text(unittest.TestCase):
    def test_new(self):
        self.assertEqual(ask(text()), [[0]])

    def test_count_and_bytes(self):
        self.assertEqual(ask(take("boat a\n"), text()), [[0], [7, 98, 111, 97, 116, 32, 97, 10]])

    def test_taken_again_is_the_same_log(self):
        """Promise 1: what's told as the held log's text is taken as it."""
        asked = [text(), sizes(), name(0), name(1)]
        asked += [question(i, m) for question in (boat, tack) for i in range(2) for m in range(3)]
        for log in ("", "boat a\n", FLEET, FLEET + "wind 3 3\n"):
            first = ask(take(log), *asked)
            again = ask(take(bytes(first[1][1:])), *asked)
            self.assertEqual(first, again)
            self.assertEqual(first[1], text_told(log))

    def test_asking_changes_nothing(self):
        self.assertEqual(ask(take(FLEET), text(), text(), sizes(), text())[1::3], [text_told(FLEET)] * 2)
        self.assertEqual(ask(take(FLEET), text(), more("wind 4 4\n"), text())[3], text_told(FLEET + "wind 4 4\n"))


class Sizes(unittest.TestCase):
    def test_new(self):
        self.assertEqual(ask(sizes()), [[0, 0, 0, 0]])

    def test_each_line_counts_for_its_kind(self):
        told = ask(more("boat a\n"), sizes(), more("boat b\n"), sizes(), more("wind 0 1\n"), sizes(),
                   more("wind 1 0\n"), sizes(), more(hulls(2)), sizes(), more(hulls(2)), sizes())
        self.assertEqual(told[1::2], [[0, 1, 0, 0], [0, 2, 0, 0], [0, 2, 0, 1], [0, 2, 0, 2], [0, 2, 1, 2],
                                      [0, 2, 2, 2]])


class Name(unittest.TestCase):
    def test_names_in_their_order(self):
        told = ask(take("boat zoe\nboat a\nboat 0123456789ab\n"), name(0), name(1), name(2))
        self.assertEqual(told[1:], [[3] + signs("zoe"), [1] + signs("a"), [12] + signs("0123456789ab")])

    def test_no_such_boat(self):
        for i in (0, 1, MOST):
            self.assertEqual(ask(name(i)), [REFUSED])
        self.assertEqual(ask(take(FLEET), name(1), name(2), name(3), name(MOST), name(1))[1:],
                         [[2, 98, 50], REFUSED, REFUSED, REFUSED, [2, 98, 50]])

    def test_the_last_of_64(self):
        self.assertEqual(ask(take(numbered(64)), name(63), name(64))[1:], [[3] + signs("b63"), REFUSED])


class Boat(unittest.TestCase):
    def test_places_and_the_wind_told_last_before(self):
        told = ask(take(FLEET), boat(0, 0), boat(1, 0), boat(0, 1), boat(1, 1), boat(0, 2), boat(1, 2))
        self.assertEqual(told[1:], [
            [0, 1, 1, 0, 0, 0, -1],
            [0, -3, 5, -2, 4, 0, -1],
            [0, 1, 0, 0, 0, 0, -1],
            [0, -3, 6, -2, 4, 0, -1],
            [0, 0, 1, 0, 0, 1, 1],
            [0, 7, 7, 6, 6, 1, 1],
        ])

    def test_a_wind_behind_the_last_moment_is_no_moments_wind(self):
        self.assertEqual(ask_last(take(FLEET + "wind 8 9\n"), boat(0, 2)), [0, 0, 1, 0, 0, 1, 1])

    def test_farthest_numbers(self):
        far = "1048576 -1048576 -1048576 1048576"
        log = f"boat a\nwind -1048576 1048576\nat {far}\n"
        self.assertEqual(ask_last(take(log), boat(0, 0)),
                         [0, 1048576, -1048576, -1048576, 1048576, -1048576, 1048576])

    def test_no_such_boat_or_moment(self):
        for question in (boat, tack):
            for i, m in ((2, 0), (0, 3), (2, 3), (3, 0), (0, 4), (MOST, 0), (0, MOST), (MOST, MOST), (2, 2), (1, 3)):
                self.assertEqual(ask_last(take(FLEET), question(i, m)), REFUSED)
            self.assertNotEqual(ask_last(take(FLEET), question(1, 2)), REFUSED)

    def test_without_boats_or_moments(self):
        for question in (boat, tack):
            self.assertEqual(ask(question(0, 0)), [REFUSED])
            self.assertEqual(ask(take("boat a\n"), question(0, 0)), [[0], REFUSED])
            self.assertEqual(ask(take("boat a\nwind 1 1\n"), question(0, 0)), [[0], REFUSED])

    def test_more_moments_than_boats_and_more_boats_than_moments(self):
        for question in (boat, tack):
            long = ask(take("boat a\nwind 1 1\n" + hulls(1) * 3), question(0, 2), question(2, 0))
            self.assertEqual([long[1] == REFUSED, long[2] == REFUSED], [False, True])
            wide = ask(take(numbered(3) + "wind 1 1\n" + hulls(3)), question(2, 0), question(0, 2))
            self.assertEqual([wide[1] == REFUSED, wide[2] == REFUSED], [False, True])


class Tack(unittest.TestCase):
    def tacks(self, log, expected):
        """The tacks of boat 0 at each moment."""
        told = ask(take(log), *[tack(0, m) for m in range(len(expected))])
        self.assertEqual(told, [[0]] + expected)

    def test_each_quarter(self):
        wind_to_south = "boat a\nwind 0 -1\n"
        self.tacks(wind_to_south + "at 1 1 0 0\n", [PORT])
        self.tacks(wind_to_south + "at 1 -1 0 0\n", [PORT])
        self.tacks(wind_to_south + "at -1 -1 0 0\n", [STARBOARD])
        self.tacks(wind_to_south + "at -1 1 0 0\n", [STARBOARD])

    def test_bow_and_stern_in_their_order(self):
        self.tacks("boat a\nwind 0 -1\nat 5 5 6 5\n", [STARBOARD])
        self.tacks("boat a\nwind 0 -1\nat 6 5 5 5\n", [PORT])

    def test_in_one_line_at_moment_0(self):
        self.tacks("boat a\nwind 0 -1\nat 0 1 0 0\n", [STARBOARD])
        self.tacks("boat a\nwind 0 -1\nat 0 0 0 1\n", [STARBOARD])
        self.tacks("boat a\nwind 3 -6\nat -2 4 0 0\n", [STARBOARD])

    def test_in_one_line_later(self):
        self.tacks("boat a\nwind 0 -1\nat 1 1 0 0\nat 0 1 0 0\nat 0 1 0 0\nat -1 1 0 0\nat 0 1 0 0\n",
                   [PORT, PORT, PORT, STARBOARD, STARBOARD])
        self.tacks("boat a\nwind 0 -1\nat 0 1 0 0\nat 0 3 0 0\nat 1 0 0 0\nat 0 -1 0 0\nat -1 0 0 0\n",
                   [STARBOARD, STARBOARD, PORT, PORT, STARBOARD])

    def test_a_change_of_wind_alone(self):
        self.tacks("boat a\nwind 1 0\nat 0 1 0 0\nwind -1 0\nat 0 1 0 0\nwind 0 9\nat 0 1 0 0\n",
                   [PORT, STARBOARD, STARBOARD])

    def test_of_several_winds_the_last_before_the_moment(self):
        self.tacks("boat a\nwind 1 0\nwind -1 0\nat 0 1 0 0\nwind 0 1\nwind 1 0\nat 0 1 0 0\nwind -1 0\n",
                   [STARBOARD, PORT])

    def test_boats_do_not_mix(self):
        log = "boat a\nboat b\nwind 0 -1\nat 1 0 0 0 -1 0 0 0\nat 0 1 0 0 0 1 0 0\nat -1 1 0 0 1 1 0 0\n"
        asked = [tack(i, m) for i in range(2) for m in range(3)]
        self.assertEqual(ask(take(log), *asked)[1:], [PORT, PORT, STARBOARD, STARBOARD, STARBOARD, PORT])

    def test_nearly_in_one_line_at_the_farthest_places(self):
        head = "boat a\nwind 1048576 1048575\n"
        self.tacks(head + "at 1048576 1048576 0 0\n", [PORT])
        self.tacks(head + "at 1048575 1048574 0 0\n", [STARBOARD])
        self.tacks(head + "at 1048576 1048575 0 0\n", [STARBOARD])

    def test_the_tack_is_the_same_whether_told_line_by_line(self):
        lines = ["boat a\n", "wind 0 -1\n", "at 1 1 0 0\n", "at 0 1 0 0\n", "at 0 2 0 0\n"]
        told = ask(*[more(line) for line in lines], tack(0, 0), tack(0, 1), tack(0, 2))
        self.assertEqual(told[5:], [PORT] * 3)

    def test_changes_lead_from_one_to_the_other_in_turn(self):
        """Promise 2: in one line the tack stays, so between two changes to port there's one to starboard."""
        around = ("1 0", "1 1", "0 1", "-1 1", "-1 0", "-1 -1", "0 -1", "1 -1")
        log = "boat a\nwind 0 -1\n" + "".join(f"at {bow} 0 0\n" for bow in around * 2)
        turn = [PORT] * 3 + [STARBOARD] * 4 + [PORT]
        self.tacks(log, turn * 2)
        back = "boat a\nwind 0 -1\n" + "".join(f"at {bow} 0 0\n" for bow in around[::-1])
        self.tacks(back, [PORT] * 2 + [STARBOARD] * 3 + [STARBOARD] + [PORT] * 2)


if __name__ == "__main__":
    unittest.main()
