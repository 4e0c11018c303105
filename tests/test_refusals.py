"""Refusals of all the calls leave the object as it was, and asking changes nothing."""

import unittest

from tests.helper import FAR, FLEET, MOST, ask, ask_of, boat, more, name, next_change, over, pair, rounds, sizes, tack
from tests.helper import take, text, touch, zone

# What is asked of FLEET (2 boats, 3 moments), and how it's refused.
REFUSED = (
    (take("boat"), [-6, 0, 1]),
    (more("boat c\n"), [-6, 8, 3]),
    (name(2), [-4]),
    (boat(2, 0), [-4]),
    (tack(0, 3), [-4]),
    (next_change(2, 0), [-4]),
    (next_change(0, 3), [-4]),
    (next_change(0, 2), [-3]),
    (rounds(0, 2, 1), [-8]),
    (rounds(2, 0, 2), [-4]),
    (rounds(0, 0, 3), [-4]),
    (pair(1, 1, 0), [-8]),
    (pair(0, 2, 0), [-4]),
    (pair(0, 1, 3), [-4]),
    (zone(0, 0, FAR + 1, 0, 0), [-8]),
    (zone(0, 0, 0, 0, 65), [-8]),
    (zone(2, 0, 0, 0, 0), [-4]),
    (zone(0, 3, 0, 0, 0), [-4]),
    (over(0, 0, 1, 1, 1, 1), [-8]),
    (over(0, 0, 0, 0, 0, -FAR - 1), [-8]),
    (over(2, 0, 0, 0, 1, 0), [-4]),
    (over(0, 3, 0, 0, 1, 0), [-4]),
    (over(0, 2, 0, 0, 1, 0), [-3]),
    (touch(0, 0, 0), [-8]),
    (touch(0, 2, 0), [-4]),
    (touch(0, 1, 3), [-4]),
    (touch(0, 1, 0), [-3]),
)

# Where two or three of -8, -4 and -3 hold at once, the one that stands first is answered.
FIRST = (
    (rounds(2, 2, 1), [-8]),
    (rounds(0, 9, 3), [-8]),
    (pair(2, 2, 0), [-8]),
    (pair(0, 0, 3), [-8]),
    (zone(2, 0, FAR + 1, 0, 0), [-8]),
    (zone(0, 3, 0, 0, 65), [-8]),
    (over(2, 0, 1, 1, 1, 1), [-8]),
    (over(0, 3, FAR + 1, 0, 0, 0), [-8]),
    (over(0, 2, 1, 1, 1, 1), [-8]),
    (over(2, 2, 0, 0, 1, 0), [-4]),
    (touch(2, 2, 0), [-8]),
    (touch(0, 0, 3), [-8]),
    (touch(0, 0, 0), [-8]),
    (touch(0, 2, 2), [-4]),
    (next_change(2, 2), [-4]),
    (next_change(MOST, 2), [-4]),
)


def all_asked():
    """One call after another for all that can be told of FLEET."""
    calls = [text(), sizes(), name(0), name(1)]
    for m in range(3):
        calls += [pair(0, 1, m), touch(1, 0, m)]
        for i in range(2):
            calls += [boat(i, m), tack(i, m), next_change(i, m), rounds(i, 0, m), zone(i, m, 1, 2, 2),
                      over(i, m, -9, 6, 9, 7)]
    return calls


class Refusals(unittest.TestCase):
    def test_each(self):
        for call, answer in REFUSED + FIRST:
            self.assertEqual(ask_of(FLEET, call), [answer], call)

    def test_the_object_is_as_it_was(self):
        before = ask_of(FLEET, *all_asked())
        for call, answer in REFUSED + FIRST:
            self.assertEqual(ask_of(FLEET, call, *all_asked()), [answer] + before, call)

    def test_all_in_a_row(self):
        calls = [call for call, answer in REFUSED]
        told = ask_of(FLEET, *calls, *all_asked())
        self.assertEqual(told, [answer for call, answer in REFUSED] + ask_of(FLEET, *all_asked()))

    def test_asking_twice_tells_the_same(self):
        once = ask_of(FLEET, *all_asked())
        self.assertEqual(ask_of(FLEET, *all_asked(), *all_asked()), once + once)

    def test_lines_can_come_behind_a_refusal(self):
        line = "at 1 1 0 0 7 7 6 6\n"
        asked = [next_change(0, 2), touch(0, 1, 2), over(0, 2, 0, 0, 1, 0)]
        self.assertEqual(ask_of(FLEET, *asked, more(line))[3:], [[0]])
        again = ask_of(FLEET, *asked, more(line), *asked, text())
        self.assertEqual(again[4:], ask_of(FLEET + line, *asked, text()))

    def test_of_the_log_without_a_line(self):
        told = ask(next_change(0, 0), rounds(0, 0, 0), pair(0, 1, 0), zone(0, 0, 0, 0, 0), over(0, 0, 0, 0, 1, 0),
                   touch(0, 1, 0), rounds(0, 1, 0), pair(0, 0, 0), zone(0, 0, 0, 0, 65), over(0, 0, 0, 0, 0, 0),
                   touch(0, 0, 0), text(), sizes())
        self.assertEqual(told, [[-4]] * 6 + [[-8]] * 5 + [[0], [0, 0, 0, 0]])


if __name__ == "__main__":
    unittest.main()
