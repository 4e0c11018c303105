"""boatlog.desk.answers: how calls are handed in, how answers are given back, and what it leaves alone."""

import contextlib
import io
import sys
import unittest
from unittest import mock

from boatlog.desk import answers
from tests.helper import FAR, FLEET, HIGHEST, LOWEST, MOST, boat, more, name, next_change, over, pair, rounds, signs
from tests.helper import sizes, tack, take, text, touch, zone

# A call of each kind, answered and refused.
ALL = (
    text() + sizes() + name(0) + boat(0, 0) + tack(0, 0) + take(FLEET) + text() + sizes() + name(1) + boat(1, 2)
    + tack(0, 1) + more("wind 4 4\n") + more("x") + take("boat a\nboat a\n") + tack(MOST, MOST)
    + next_change(0, 0) + next_change(1, 2) + next_change(2, 0) + rounds(1, 0, 2) + rounds(0, 2, 1) + rounds(0, 0, 3)
    + pair(0, 1, 0) + pair(1, 1, 0) + pair(0, 2, 0) + zone(0, 0, -2, -1, 3) + zone(0, 0, -9, 9, 1)
    + zone(0, 0, LOWEST, HIGHEST, MOST) + zone(2, 0, -FAR, FAR, 64) + over(1, 1, 0, 9, 0, -9) + over(1, 0, -5, 6, -3, 6)
    + over(0, 0, -1, -1, -1, -1) + over(0, 3, 0, 0, 1, 1) + touch(0, 1, 0) + touch(0, 0, 0) + touch(0, MOST, 0)
    + take("") + sizes()
)


class Untouchable(list):
    """A list that no one may change, not for a while either."""

    def refuse(self, *args, **kwargs):
        raise AssertionError("what is handed in is changed")

    append = extend = insert = pop = remove = clear = sort = reverse = refuse
    __setitem__ = __delitem__ = __iadd__ = __imul__ = refuse


class HandedInAndGivenBack(unittest.TestCase):
    def test_one_flat_list_with_a_count_before_each_answer(self):
        log = signs("boat a\nwind 2 3\nat 1 0 4 5\n")
        calls = [0, len(log)] + log + [2, 3, 4, 0, 5, 0, 0, 6, 0, 0, 4, 1, 5, 1, 0, 6, 0, 1, 1, 1, 10, 1, 0]
        told = [1, 0] + [1 + len(log), len(log)] + log + [4, 0, 1, 1, 1] + [2, 1, 97] + [7, 0, 1, 0, 4, 5, 2, 3]
        told += [1, 1] + [1, -4] + [1, -4] + [1, -4] + [3, -6, 3, 1] + [1, 0]
        self.assertEqual(answers(calls), told)

    def test_one_flat_list_of_the_other_calls(self):
        log = signs("boat a\nboat b\nwind 0 -1\nat 1 -1 0 -2 9 3 9 2\nat -1 1 0 0 9 4 9 3\nat -2 2 -1 1 0 0 -3 3\n")
        calls = [0, len(log)] + log
        calls += [7, 0, 0, 7, 0, 1, 7, 2, 0, 8, 0, 0, 2, 8, 1, 0, 2, 8, 0, 2, 1, 8, 0, 2, 3]
        calls += [9, 0, 1, 0, 9, 1, 0, 2, 9, 1, 1, 0, 9, 0, 2, 0]
        calls += [10, 0, 0, 1, -1, 0, 10, 0, 0, -1, 1, 1, 10, 0, 0, 0, 0, 65, 10, 2, 0, 0, 0, 64]
        calls += [11, 0, 0, -3, 0, 3, 0, 11, 0, 1, -3, 0, 3, 0, 11, 0, 0, 3, -3, 3, -3, 11, 0, 3, -3, 0, 3, 0]
        calls += [12, 0, 1, 0, 12, 1, 0, 3, 12, 0, 0, 0, 12, 2, 3, 0, 3]
        told = [1, 0]
        told += [3, 0, 1, 1] + [1, -3] + [1, -4] + [2, 0, 0] + [2, 0, -1] + [1, -8] + [1, -4]
        told += [4, 0, 1, 2, 0] + [4, 0, 0, 0, 1] + [1, -8] + [1, -4]
        told += [1, 1] + [1, 0] + [1, -8] + [1, -4]
        told += [4, 0, 0, 1, 2] + [1, -3] + [1, -8] + [1, -4]
        told += [2, 0, 2] + [1, -4] + [1, -8] + [1, -4] + [4, 0, 2, 3, 1]
        self.assertEqual(answers(calls), told)

    def test_the_examples_of_the_readme(self):
        log, line = signs("boat ann\nwind 0 -1\nat 1 1 0 0\n"), signs("at -1 2 0 1\n")
        self.assertEqual(answers([0, len(log)] + log + [3, 6, 0, 0]), [1, 0, 4, 0, 1, 1, 1, 1, 2])
        asked = [7, 0, 0] + [8, 0, 0, 1] + [10, 0, 1, 0, 0, 1] + [11, 0, 0, 0, -5, 0, 5]
        told = [1, 0, 1, 0, 3, 0, 1, 1, 2, 0, 0, 1, 1, 4, 0, 0, 1, 2]
        self.assertEqual(answers([0, len(log)] + log + [1, len(line)] + line + asked), told)

    def test_texts_that_look_like_calls(self):
        self.assertEqual(answers([0, 3, 0, 1, 2, 3]), [3, -6, 0, 1, 4, 0, 0, 0, 0])
        self.assertEqual(answers([1, 2, 3, 3, 3]), [3, -6, 0, 1, 4, 0, 0, 0, 0])

    def test_texts_of_no_byte(self):
        self.assertEqual(answers([0, 0, 1, 0, 0, 0, 2]), [1, 0, 1, 0, 1, 0, 1, 0])

    def test_300_calls(self):
        self.assertEqual(answers([3] * 300), [4, 0, 0, 0, 0] * 300)
        calls = take(FLEET) + text() * 299
        self.assertEqual(answers(calls), [1, 0] + ([1 + len(FLEET), len(FLEET)] + signs(FLEET)) * 299)

    def test_the_longest_list(self):
        head = "boat a\nwind 0 1\n"
        log = head + "at 1 1 0 0\n" * ((29990 - len(head)) // 11)
        moments = log.count("at 1")
        told = answers(take(log) + sizes() + tack(0, moments - 1) + tack(0, moments))
        self.assertEqual(told, [1, 0, 4, 0, 1, moments, 1, 1, 1, 1, -4])

    def test_long_chains_without_nesting(self):
        """Nothing is nested as deep as the text is long, not even where the tack is as before each time."""
        head = "boat a\nwind 0 1\nat 1 0 0 0\n"
        log = head + "at 0 1 0 0\n" * 2700
        self.assertEqual(answers(take(log) + tack(0, 2700)), [1, 0, 1, 1])
        self.assertEqual(answers(take("\n" * 29990)), [3, -6, 0, 1])
        self.assertEqual(answers(take(" " * 29990)), [3, -6, 0, 1])
        asked = next_change(0, 0) + rounds(0, 0, 2700) + over(0, 0, 0, 0, 1, 0) + zone(0, 2700, 0, 1, 0)
        self.assertEqual(answers(take(log) + asked), [1, 0, 1, -3, 2, 0, 0, 4, 0, 0, 0, 1, 1, 1])
        self.assertEqual(answers(take("at" + " 0" * 14000 + "\n")), [3, -6, 0, 1])

    def test_kinds(self):
        calls = list(ALL)
        told = answers(calls)
        self.assertIs(type(told), list)
        self.assertEqual({type(number) for number in told}, {int})
        self.assertIsNot(told, calls)


class LeftAlone(unittest.TestCase):
    def test_the_list_is_the_same_behind_the_call(self):
        calls = list(ALL)
        answers(calls)
        self.assertEqual(calls, ALL)

    def test_the_list_is_not_changed_for_a_while_either(self):
        self.assertEqual(answers(Untouchable(ALL)), answers(list(ALL)))

    def test_the_same_both_times(self):
        calls = list(ALL)
        first = answers(calls)
        kept = list(first)
        self.assertEqual(answers(calls), kept)
        self.assertEqual(first, kept)

    def test_nothing_is_kept(self):
        answers(take(FLEET))
        self.assertEqual(answers(sizes() + text() + name(0)), [4, 0, 0, 0, 0, 1, 0, 1, -4])

    def test_what_is_given_back_is_its_own(self):
        """Changing an answer changes no later one."""
        first = answers(list(ALL))
        kept = list(first)
        first.clear()
        self.assertEqual(answers(list(ALL)), kept)

    def test_nothing_is_printed_read_or_imported(self):
        out, err = io.StringIO(), io.StringIO()
        modules = set(sys.modules)
        with contextlib.redirect_stdout(out), contextlib.redirect_stderr(err):
            with mock.patch("builtins.open", side_effect=AssertionError("a file is opened")), \
                    mock.patch("builtins.input", side_effect=AssertionError("input is read")), \
                    mock.patch("builtins.__import__", side_effect=AssertionError("something is imported")):
                answers(list(ALL))
        self.assertEqual((out.getvalue(), err.getvalue()), ("", ""))
        self.assertEqual(set(sys.modules), modules)


if __name__ == "__main__":
    unittest.main()
