"""more: as take of the held log's text with this one behind it; what was told before stays so."""

import unittest

from tests.helper import FLEET, ask, ask_last, boat, more, name, numbered, sizes, tack, take, text, text_told

LINES = FLEET.splitlines(keepends=True)


def all_told(boats, moments):
    """The calls that ask for all that can be told of so many boats and moments."""
    calls = [name(i) for i in range(boats)]
    for i in range(boats):
        for m in range(moments):
            calls += [boat(i, m), tack(i, m)]
    return calls


class MoreBehindALog(unittest.TestCase):
    def test_cut_at_any_line(self):
        whole = ask(take(FLEET), text(), sizes(), *all_told(2, 3))
        for k in range(len(LINES) + 1):
            parted = ask(take("".join(LINES[:k])), more("".join(LINES[k:])), text(), sizes(), *all_told(2, 3))
            self.assertEqual(parted[0], [0])
            self.assertEqual(parted[1:], whole)

    def test_line_by_line_from_a_new_object(self):
        told = ask(*[more(line) for line in LINES], text(), sizes(), *all_told(2, 3))
        self.assertEqual(told[:len(LINES)], [[0]] * len(LINES))
        self.assertEqual(told[len(LINES):], ask(take(FLEET), text(), sizes(), *all_told(2, 3))[1:])

    def test_cut_within_a_line_is_refused(self):
        place = 0
        for number, line in enumerate(LINES):
            for k in range(place + 1, place + len(line)):
                self.assertEqual(ask_last(take("".join(LINES[:number])), more(FLEET[place:k])), [-6, number, 1])
            place += len(line)

    def test_nothing_more(self):
        self.assertEqual(ask(more(""), text(), sizes()), [[0], [0], [0, 0, 0, 0]])
        self.assertEqual(ask(take(FLEET), more(""), text(), sizes())[1:], [[0], text_told(FLEET), [0, 2, 3, 3]])


class MoreRefused(unittest.TestCase):
    def fault(self, held, behind, line, why):
        """As take of both texts; and the held log stays, in each thing that's told of it."""
        self.assertEqual(ask_last(take(held + behind)), [-6, line, why])
        asked = [text(), sizes()]
        sized = ask(take(held), sizes())[1]
        asked += all_told(sized[1], sized[2])
        before = ask(take(held), *asked)[1:]
        told = ask(take(held), more(behind), *asked)
        self.assertEqual(told[1], [-6, line, why])
        self.assertEqual(told[2:], before)

    def test_not_formed(self):
        self.fault(FLEET, "at 1 2 3\n", 8, 1)
        self.fault(FLEET, "wind 5 5\nwind 5 6", 9, 1)
        self.fault(FLEET, "wind 5 5\n\n", 9, 1)
        self.fault("", "boat", 0, 1)

    def test_cannot_stand(self):
        self.fault(FLEET, "boat c\n", 8, 3)
        self.fault("boat a\nwind 0 1\n", "boat b\n", 2, 3)
        self.fault("boat a\n", "at 1 1 0 0\n", 1, 3)
        self.fault("boat a\n", "boat b\nwind 1 0\nat 1 1 0 0\n", 3, 3)
        self.fault("", "wind 0 1\n", 0, 3)

    def test_clashes(self):
        self.fault("boat a\nboat b\n", "boat c\nboat a\n", 3, 4)
        self.fault(FLEET, "wind 1 1\n", 8, 4)
        self.fault(FLEET, "wind 1 2\nwind 0 0\n", 9, 4)
        self.fault(FLEET, "wind 1 2\nat 0 -1 0 0 7 7 6 6\n", 9, 4)
        self.fault(FLEET, "at 0 1 0 0 6 6 7 7\n", 8, 4)
        self.fault(FLEET, "at 0 1 0 0 7 7 6 6\nat 1 1 1 1 7 7 6 6\n", 9, 4)

    def test_too_much(self):
        self.fault(numbered(64), "boat b64\n", 64, 2)
        self.fault(numbered(63), "boat b63\nboat b64\n", 64, 2)

    def test_what_was_refused_can_be_followed_by_what_is_not(self):
        told = ask(take("boat a\n"), more("boat b\nboat a\n"), more("boat b\n"), more("boat b\n"), text())
        self.assertEqual(told, [[0], [-6, 2, 4], [0], [-6, 2, 4], text_told("boat a\nboat b\n")])
        told = ask(take(FLEET), more("wind 9 9\nx\n"), more("wind 9 9\n"), sizes())
        self.assertEqual(told, [[0], [-6, 9, 1], [0], [0, 2, 3, 4]])


class NothingOfBeforeChanges(unittest.TestCase):
    """Promise 4, as far as name, boat and tack tell of it."""

    def test_moments_stay_when_lines_come(self):
        before = ask(take(FLEET), *all_told(2, 3))[1:]
        for lines in ("wind -1 0\n", "at 0 1 0 0 7 7 6 6\n", "wind -1 0\nat 1 0 0 0 9 0 0 0\nwind 0 7\n"):
            self.assertEqual(ask(take(FLEET), more(lines), *all_told(2, 3))[2:], before)

    def test_names_stay_when_boats_come(self):
        told = ask(take("boat a\n"), name(0), name(1), more("boat b\n"), name(0), name(1))
        self.assertEqual(told, [[0], [1, 97], [-4], [0], [1, 97], [1, 98]])

    def test_a_wind_holds_from_the_next_moment_on(self):
        log = "boat a\nwind 0 -1\nat 1 1 0 0\n"
        told = ask(take(log), boat(0, 0), tack(0, 0), more("wind 0 1\n"), boat(0, 0), tack(0, 0),
                   more("at 1 1 0 0\n"), boat(0, 0), tack(0, 0), boat(0, 1), tack(0, 1))
        first = [0, 1, 1, 0, 0, 0, -1]
        second = [0, 1, 1, 0, 0, 0, 1]
        self.assertEqual(told, [[0], first, [2], [0], first, [2], [0], first, [2], second, [1]])


if __name__ == "__main__":
    unittest.main()
