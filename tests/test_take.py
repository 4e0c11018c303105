"""take: which texts are logs, and which line and reason is the fault of those that aren't."""

import unittest

from tests.helper import FLEET, ask, ask_last, boat, hulls, name, numbered, sizes, take, text, text_told

ONE = "boat a\nwind 0 -1\n"
TWO = "boat a\nboat b\nwind 0 -1\n"


class TakeCase(unittest.TestCase):
    def taken(self, log, boats, moments, winds):
        self.assertEqual(ask(take(log), sizes(), text()), [[0], [0, boats, moments, winds], text_told(log)])

    def fault(self, log, line, why):
        """The fault is told, and the log held before is held still."""
        told = ask(take(FLEET), take(log), text(), sizes())
        self.assertEqual(told, [[0], [-6, line, why], text_told(FLEET), [0, 2, 3, 3]])


class Logs(TakeCase):
    def test_several_boats_winds_and_moments(self):
        self.taken(FLEET, 2, 3, 3)

    def test_no_line(self):
        self.taken("", 0, 0, 0)

    def test_no_line_in_the_place_of_a_log(self):
        self.assertEqual(ask(take(FLEET), take(""), sizes(), text()), [[0], [0], [0, 0, 0, 0], [0]])

    def test_boats_alone(self):
        self.taken("boat a\n", 1, 0, 0)
        self.taken("boat a\nboat b\n", 2, 0, 0)

    def test_winds_without_moments(self):
        self.taken("boat a\nwind 0 1\nwind 1 0\n", 1, 0, 2)

    def test_another_log_takes_the_place_of_the_held_one(self):
        told = ask(take(FLEET), take(ONE + "at 0 0 1 1\n"), sizes(), name(0), name(1), boat(0, 0))
        self.assertEqual(told, [[0], [0], [0, 1, 1, 1], [1, 97], [-4], [0, 0, 0, 1, 1, 0, -1]])


class Names(TakeCase):
    def test_lengths(self):
        self.taken("boat a\n", 1, 0, 0)
        self.taken("boat abcdefghijkl\n", 1, 0, 0)
        self.fault("boat abcdefghijklm\n", 0, 1)
        self.fault("boat \n", 0, 1)
        self.fault("boat\n", 0, 1)

    def test_signs_at_the_edges(self):
        for sign in "az09":
            self.taken(f"boat {sign}\n", 1, 0, 0)
            self.taken(f"boat x{sign}\n", 1, 0, 0)

    def test_every_other_sign(self):
        allowed = b"abcdefghijklmnopqrstuvwxyz0123456789"
        for sign in range(256):
            # A line feed makes two lines of it, which is another case.
            if sign in allowed or sign == 10:
                continue
            for word in (b"%c", b"%cx", b"x%c", b"x%cy"):
                log = b"boat " + word % sign + b"\n"
                self.assertEqual(ask_last(take(log)), [-6, 0, 1], log)

    def test_the_words_are_names_too(self):
        self.taken("boat boat\nboat wind\nboat at\nboat 0\nboat 007\n", 5, 0, 0)


class Numbers(TakeCase):
    def test_formed(self):
        for number in ("0", "1", "9", "10", "-1", "-10", "1048576", "-1048576", "1048575", "999999"):
            self.taken(f"boat a\nwind {number} 1\n", 1, 0, 1)
            self.taken(f"boat a\nwind 1 {number}\n", 1, 0, 1)
            told = ask(take(ONE + f"at 5 {number} 7 8\n"), boat(0, 0))
            self.assertEqual(told, [[0], [0, 5, int(number), 7, 8, 0, -1]])

    def test_not_formed(self):
        wrong = (
            "-0", "00", "01", "-01", "-00", "+1", "1048577", "-1048577", "1048580", "2000000", "10000000",
            "4294967297", "18446744073709551617", "9" * 900, "-", "--1", "1-", "1.0", "1e3", "0x1", "a", "1a",
            "1_0", "/", ":", "1/", "1:", "1,000", "1\t", "1\r",
        )
        for number in wrong:
            self.fault(f"boat a\nwind {number} 1\n", 1, 1)
            self.fault(f"boat a\nwind 1 {number}\n", 1, 1)
            self.fault(ONE + f"at 5 {number} 7 8\n", 2, 1)
            self.fault(ONE + f"at 5 6 7 {number}\n", 2, 1)

    def test_a_number_of_very_many_digits(self):
        self.assertEqual(ask_last(take("boat a\nwind 1 " + "9" * 29000 + "\n")), [-6, 1, 1])
        self.assertEqual(ask_last(take("boat a\nwind 1 " + "0" * 29000 + "\n")), [-6, 1, 1])


class NotFormed(TakeCase):
    def test_blanks(self):
        for line in ("boat  a", "boat a ", " boat a", "boat a b", "boat\ta", "boata", " ", ""):
            self.fault(line + "\n", 0, 1)
        for line in ("wind  0 1", "wind 0  1", "wind 0 1 ", " wind 0 1", "wind\t0 1", "wind0 1"):
            self.fault("boat a\n" + line + "\n", 1, 1)
        for line in ("at  0 1 2 3", "at 0 1 2  3", "at 0 1 2 3 ", " at 0 1 2 3", "at0 1 2 3"):
            self.fault(ONE + line + "\n", 2, 1)

    def test_other_words(self):
        for line in ("Boat a", "BOAT a", "boats a", "boa a", "wins 0 1", "att 0 1 2 3", "a 0 1 2 3", "# a", "a", "0"):
            self.fault(line + "\n", 0, 1)

    def test_wind_of_another_count(self):
        for line in ("wind", "wind ", "wind 1", "wind 1 2 3", "wind 1 2 3 4"):
            self.fault("boat a\n" + line + "\n", 1, 1)

    def test_at_of_another_count(self):
        for count in (0, 1, 2, 3, 5, 6, 7):
            self.fault(ONE + "at" + " 1" * count + "\n", 2, 1)
        self.fault(ONE + "at \n", 2, 1)

    def test_at_of_4_and_256_and_260(self):
        self.taken(ONE + hulls(1), 1, 1, 1)
        most = numbered(64) + "wind 0 1\n"
        self.taken(most + hulls(64), 64, 1, 1)
        self.fault(most + hulls(65), 65, 1)
        self.fault(most + "at" + " 1 0" * 127 + " 1\n", 65, 1)
        self.fault(most + "at" + " 1 0" * 128 + " 1\n", 65, 1)

    def test_without_a_line_feed(self):
        self.fault("boat a", 0, 1)
        self.fault("b", 0, 1)
        self.fault(" ", 0, 1)
        self.fault(FLEET + "boat c", 8, 1)
        self.fault(FLEET[:-1], 7, 1)
        self.fault(ONE[:-1], 1, 1)

    def test_an_empty_line(self):
        self.fault("\n", 0, 1)
        self.fault("boat a\n\nwind 0 1\n", 1, 1)
        self.fault("boat a\n\n", 1, 1)

    def test_a_carriage_return(self):
        self.fault("boat a\r\n", 0, 1)

    def test_bytes_beyond_ascii(self):
        self.fault(b"boat \xc3\xa9\n", 0, 1)
        self.fault(b"\xff\n", 0, 1)
        self.fault(b"\x00", 0, 1)
        self.fault(b"boat a\nwind \xb2 1\n", 1, 1)


class CannotStand(TakeCase):
    def test_boat_behind_a_wind(self):
        self.fault("boat a\nwind 0 1\nboat b\n", 2, 3)

    def test_boat_behind_an_at(self):
        self.fault(ONE + "at 0 0 1 1\nboat b\n", 3, 3)

    def test_wind_before_any_boat(self):
        self.fault("wind 0 1\n", 0, 3)

    def test_at_before_any_wind(self):
        self.fault("boat a\nat 0 0 1 1\n", 1, 3)

    def test_at_before_any_boat(self):
        self.fault("at 0 0 1 1\n", 0, 3)

    def test_at_not_four_for_each_boat(self):
        self.fault(ONE + hulls(2), 2, 3)
        self.fault(TWO + hulls(1), 3, 3)
        self.fault(TWO + hulls(3), 3, 3)
        self.fault(TWO + hulls(2) + hulls(1), 4, 3)
        self.taken(TWO + hulls(2), 2, 1, 1)


class Clashes(TakeCase):
    def test_a_name_twice(self):
        self.fault("boat a\nboat a\n", 1, 4)
        self.fault("boat a\nboat b\nboat a\n", 2, 4)
        self.taken("boat a\nboat aa\nboat 0\nboat 00\n", 4, 0, 0)

    def test_a_wind_of_nothing(self):
        self.fault("boat a\nwind 0 0\n", 1, 4)
        self.fault(ONE + "wind 0 0\n", 2, 4)

    def test_a_wind_as_it_is_already(self):
        self.fault("boat a\nwind 0 1\nwind 0 1\n", 2, 4)
        self.fault("boat a\nwind 0 1\nat 0 0 1 1\nwind 0 1\n", 3, 4)

    def test_a_wind_that_was_before_another(self):
        self.taken("boat a\nwind 0 1\nwind 1 0\nwind 0 1\n", 1, 0, 3)
        self.taken("boat a\nwind 0 1\nat 0 0 1 1\nwind 1 0\nwind 0 1\nat 0 0 1 1\n", 1, 2, 3)

    def test_winds_that_differ_in_one_number(self):
        self.taken("boat a\nwind 0 1\nwind 0 2\nwind 0 -2\nwind 1 -2\nwind -1 -2\nwind -2 -1\n", 1, 0, 6)

    def test_a_hull_of_one_place(self):
        self.fault(ONE + "at 0 0 0 0\n", 2, 4)
        self.fault(ONE + "at -7 8 -7 8\n", 2, 4)
        self.fault(TWO + "at 0 0 0 1 5 5 5 5\n", 3, 4)
        self.fault(TWO + "at 5 5 5 5 0 0 0 1\n", 3, 4)
        self.fault(ONE + "at 0 0 1 1\nat 3 3 3 3\n", 3, 4)
        self.taken(ONE + "at 3 4 3 5\nat 3 4 2 4\n", 1, 2, 1)

    def test_a_heading_turned_by_half(self):
        self.fault(ONE + "at 1 0 0 0\nat 0 0 1 0\n", 3, 4)
        self.fault(ONE + "at 3 5 1 2\nat -4 -6 0 0\n", 3, 4)
        self.fault(TWO + "at 1 0 0 0 0 1 0 0\nat 1 0 0 0 0 -9 0 0\n", 4, 4)
        self.fault(TWO + "at 1 0 0 0 0 1 0 0\nat -1 0 0 0 0 1 0 0\n", 4, 4)
        self.fault(ONE + "at 1 0 0 0\nwind 5 5\nat 0 0 1 0\n", 4, 4)

    def test_a_heading_turned_by_less_or_not_at_all(self):
        self.taken(ONE + "at 1 0 0 0\nat 9 0 2 0\nat 9 0 2 0\n", 1, 3, 1)
        self.taken(ONE + "at 1000000 0 0 0\nat -1000000 1 0 0\nat 1000000 0 0 0\n", 1, 3, 1)
        self.taken(ONE + "at 1 0 0 0\nat 0 1 0 0\nat -1 0 0 0\n", 1, 3, 1)

    def test_a_half_against_an_earlier_moment_or_another_boat(self):
        self.taken(ONE + "at 1 0 0 0\nat 0 5 0 0\nat 0 0 1 0\n", 1, 3, 1)
        self.taken(TWO + "at 1 0 0 0 -1 0 0 0\nat 1 1 0 0 -1 1 0 0\n", 2, 2, 1)

    def test_a_half_at_the_farthest_places(self):
        far = "1048576 1048576 -1048576 -1048576"
        back = "-1048576 -1048576 1048576 1048576"
        beside = "-1048576 -1048575 1048576 1048576"
        self.fault(ONE + f"at {far}\nat {back}\n", 3, 4)
        self.taken(ONE + f"at {far}\nat {beside}\n", 1, 2, 1)


class TooMuch(TakeCase):
    def test_the_64th_and_65th_boat(self):
        self.taken(numbered(64), 64, 0, 0)
        self.fault(numbered(65), 64, 2)
        self.fault(numbered(66), 64, 2)


class FirstReason(TakeCase):
    def test_not_formed_before_all_others(self):
        self.fault("wind 0 00\n", 0, 1)
        self.fault("boat a\nboat a", 1, 1)
        self.fault("boat a\nboat a \n", 1, 1)
        self.fault(numbered(64) + "boat B\n", 64, 1)
        self.fault(numbered(64) + "boat b64", 64, 1)
        self.fault(ONE + "boat b", 2, 1)
        self.fault("at 0 0 0\n", 0, 1)
        self.fault(ONE + hulls(65, "1 1 1 1"), 2, 1)

    def test_standing_before_clashing(self):
        self.fault("wind 0 0\n", 0, 3)
        self.fault(ONE + "boat a\n", 2, 3)
        self.fault("boat a\nat 1 1 1 1\n", 1, 3)
        self.fault(ONE + "at 1 1 1 1 2 2 2 2\n", 2, 3)
        self.fault(ONE + "at 1 0 0 0\nat 0 0 1 0 1 1 1 1\n", 3, 3)

    def test_standing_before_too_much(self):
        self.fault(numbered(64) + "wind 0 1\nboat b64\n", 65, 3)

    def test_clashing_before_too_much(self):
        self.fault(numbered(64) + "boat b0\n", 64, 4)
        self.fault(numbered(64) + "boat b63\n", 64, 4)


class FirstLine(TakeCase):
    def test_the_first_line_with_something_wrong_is_told(self):
        self.fault("boat a\nboat a\nboat B\nx", 1, 4)
        self.fault("wind 0 1\nboat B\n", 0, 3)
        self.fault(numbered(65) + "boat B\n", 64, 2)
        self.fault(ONE + "wind 0 0\nat 1\nboat c", 2, 4)
        self.fault(ONE + "at 1 1 1 1\nx\n", 2, 4)

    def test_a_refused_line_does_not_count_for_the_next_text(self):
        told = ask(take("boat a\nboat a\n"), sizes(), text(), take("boat a\n"), sizes())
        self.assertEqual(told, [[-6, 1, 4], [0, 0, 0, 0], [0], [0], [0, 1, 0, 0]])


if __name__ == "__main__":
    unittest.main()
