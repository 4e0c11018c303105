"""Points 1 to 4 over many made-up logs."""

import random
import unittest

from tests.helper import ask, ask_of, boat, made_fleet, more, name, next_change, over, pair, rounds, sizes, tack, take
from tests.helper import text, touch, zone

STARBOARD, PORT = 1, 2


def of_moments(boats, last):
    """The calls that tell of the moments up to the last alone."""
    calls = []
    for m in range(last + 1):
        for i in range(boats):
            calls += [boat(i, m), tack(i, m), rounds(i, 0, m), rounds(i, m, last), zone(i, m, 1, 0, 1)]
            calls += [pair(i, j, m) for j in range(boats) if j != i]
    return calls


def found_from(boats, m):
    """The calls that tell of the first moment behind m, or from m on."""
    calls = []
    for i in range(boats):
        calls += [next_change(i, m), over(i, m, -1, 0, 1, 1), over(i, m, 1, -2, 0, 2)]
        calls += [touch(i, j, m) for j in range(boats) if j != i]
    return calls


def changes(log, i):
    """The changes of tack of boat i as next tells them one after another, each from where the last was."""
    found = []
    m = 0
    while True:
        told = ask_of(log, next_change(i, m))[0]
        if told == [-3]:
            return found
        found.append(told[1:])
        m = told[1]


class OneLogOrOneFault(unittest.TestCase):
    """Point 1."""

    def test_what_text_tells_is_taken_as_the_log(self):
        chance = random.Random(1)
        for k in range(150):
            boats, moments = chance.randint(1, 3), chance.randint(1, 5)
            log = "".join(made_fleet(chance, boats, moments)[0])
            asked = [text(), sizes()] + [name(i) for i in range(boats)] + of_moments(boats, moments - 1)
            asked += [call for m in range(moments) for call in found_from(boats, m)]
            first = ask_of(log, *asked)
            self.assertEqual(ask_of(bytes(first[0][1:]), *asked), first)
            self.assertEqual(bytes(first[0][1:]), log.encode("ascii"))

    def test_text_behind_more_is_taken_too(self):
        chance = random.Random(11)
        for k in range(150):
            lines = made_fleet(chance, 2, 4)[0]
            cut = chance.randint(0, len(lines))
            told = ask(take("".join(lines[:cut])), more("".join(lines[cut:])), text(), *of_moments(2, 3))
            self.assertEqual(told[:2], [[0], [0]])
            self.assertEqual(ask_of(bytes(told[2][1:]), text(), *of_moments(2, 3)), told[2:])

    def test_a_text_is_taken_or_has_a_fault(self):
        chance = random.Random(111)
        answered = set()
        for k in range(1500):
            lines = made_fleet(chance, 2, 3)[0]
            if chance.random() < 0.2:
                chance.shuffle(lines)
            spoiled = list("".join(lines))
            spoiled[chance.randrange(len(spoiled))] = chance.choice("- 01\nab")
            told = ask(take("".join(spoiled)), text())
            whole = [len(spoiled)] + [ord(sign) for sign in spoiled]
            self.assertIn(told[1:], ([whole],) if told[0] == [0] else ([[0]],))
            if told[0] != [0]:
                self.assertEqual((told[0][0], len(told[0])), (-6, 3))
            answered.add(tuple(told[0][2:]))
        self.assertLessEqual({(), (1,), (3,), (4,)}, answered)


class InTurn(unittest.TestCase):
    """Point 2."""

    def test_changes_lead_from_one_tack_to_the_other(self):
        chance = random.Random(2)
        kinds = set()
        for k in range(300):
            moments = chance.randint(1, 12)
            log = "".join(made_fleet(chance, 1, moments)[0])
            tacks = [told[0] for told in ask_of(log, *[tack(0, m) for m in range(moments)])]
            found = changes(log, 0)
            self.assertEqual([m for m, kind in found], [m for m in range(1, moments) if tacks[m] != tacks[m - 1]])
            kinds |= {kind for m, kind in found}
            now = tacks[0]
            for m, kind in found:
                self.assertEqual(tacks[m - 1], now)
                now = STARBOARD if now == PORT else PORT
                self.assertEqual(tacks[m], now)
        self.assertEqual(kinds, {1, 2})


class RoundsTogether(unittest.TestCase):
    """Point 3."""

    def test_a_stretch_and_its_two_parts(self):
        chance = random.Random(3)
        more_by = set()
        for k in range(150):
            moments = chance.randint(2, 16)
            log = "".join(made_fleet(chance, 1, moments, chance.choice((1, 2, 50)))[0])
            stretches = [(a, c) for a in range(moments) for c in range(a, moments)]
            told = ask_of(log, *[rounds(0, a, c) for a, c in stretches])
            made = {stretch: answer[1] for stretch, answer in zip(stretches, told)}
            for a, c in stretches:
                for b in range(a, c + 1):
                    more_by.add(made[a, c] - made[a, b] - made[b, c])
        self.assertEqual(more_by, {0, 1})


class NothingOfBefore(unittest.TestCase):
    """Point 4."""

    def test_lines_more_change_nothing_of_before(self):
        chance = random.Random(4)
        for k in range(150):
            boats, moments = chance.randint(1, 2), chance.randint(2, 6)
            lines = made_fleet(chance, boats, moments)[0]
            ends = [n for n, line in enumerate(lines) if line.startswith("at")]
            cut = chance.randrange(moments - 1)
            head, rest = "".join(lines[:ends[cut] + 1]), "".join(lines[ends[cut] + 1:])
            asked = of_moments(boats, cut)
            told = ask(take(head), *asked, more(rest), *asked)
            self.assertEqual((told[0], told[len(asked) + 1]), ([0], [0]))
            self.assertEqual(told[1:len(asked) + 1], told[len(asked) + 2:], (head, rest))

    def test_what_was_found_stays_found(self):
        chance = random.Random(44)
        stayed = 0
        for k in range(300):
            boats, moments = 2, chance.randint(2, 6)
            lines = made_fleet(chance, boats, moments)[0]
            ends = [n for n, line in enumerate(lines) if line.startswith("at")]
            cut = chance.randrange(moments - 1)
            head, rest = "".join(lines[:ends[cut] + 1]), "".join(lines[ends[cut] + 1:])
            asked = [call for m in range(cut + 1) for call in found_from(boats, m)]
            told = ask(take(head), *asked, more(rest), *asked)
            for before, after in zip(told[1:len(asked) + 1], told[len(asked) + 2:]):
                if before != [-3]:
                    stayed += 1
                    self.assertEqual(before, after)
                elif after != [-3]:
                    # A change or touch comes at a moment that is new, a bow goes over from the last of before.
                    self.assertGreaterEqual(after[1], cut)
        self.assertGreater(stayed, 100)


if __name__ == "__main__":
    unittest.main()
