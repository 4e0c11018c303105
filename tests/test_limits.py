"""What a list of calls is too short to reach, asked of the object itself: long texts, many moments and winds."""

import unittest

from boatlog.book import Book
from tests.helper import signs

HEAD = "boat a\nwind 0 1\n"
MOMENT = "at 1 1 0 0\n"


def held(*texts):
    """A book that holds these texts' log."""
    book = Book()
    for text in texts:
        if book.more(signs(text)) != [0]:
            raise AssertionError("the text is refused")
    return book


def winds(count):
    return "".join(f"wind {k % 2} 1\n" for k in range(count))


class TooLong(unittest.TestCase):
    def test_take(self):
        self.assertEqual(Book().take([120] * 65536), [-6, 0, 1])
        self.assertEqual(Book().take([120] * 65537), [-2])

    def test_a_log_of_just_so_many_bytes(self):
        log = HEAD + "at 111111 11111 0 0\n" * 3276
        self.assertEqual(len(log), 65536)
        book = Book()
        self.assertEqual(book.take(signs(log)), [0])
        self.assertEqual(book.text(), [65536] + signs(log))
        self.assertEqual(book.more([]), [0])
        self.assertEqual(book.more([10]), [-2])
        self.assertEqual(book.text(), [65536] + signs(log))
        self.assertEqual(book.take(signs("boat b\n" + log)), [-2])
        self.assertEqual(book.text(), [65536] + signs(log))

    def test_more_counts_the_held_text_too(self):
        book = held(HEAD)
        self.assertEqual(book.more([120] * (65536 - len(HEAD))), [-6, 2, 1])
        self.assertEqual(book.more([120] * (65537 - len(HEAD))), [-2])
        self.assertEqual(book.text(), [len(HEAD)] + signs(HEAD))

    def test_take_does_not_count_the_held_text(self):
        book = held(HEAD)
        self.assertEqual(book.take([120] * 65536), [-6, 0, 1])


class TooManyMoments(unittest.TestCase):
    def test_the_4096th_and_4097th(self):
        book = held(HEAD + MOMENT * 4096)
        self.assertEqual(book.sizes(), [0, 1, 4096, 1])
        self.assertEqual(book.more(signs(MOMENT)), [-6, 4098, 2])
        self.assertEqual(book.take(signs(HEAD + MOMENT * 4097)), [-6, 4098, 2])
        self.assertEqual(book.sizes(), [0, 1, 4096, 1])
        self.assertEqual(book.more(signs("wind 1 1\n")), [0])

    def test_other_reasons_come_first(self):
        book = held(HEAD + MOMENT * 4096)
        self.assertEqual(book.more(signs("at 1 1 0\n")), [-6, 4098, 1])
        self.assertEqual(book.more(signs("at 1 1 0 0 1 1 0 0\n")), [-6, 4098, 3])
        self.assertEqual(book.more(signs("at 1 1 1 1\n")), [-6, 4098, 4])
        self.assertEqual(book.more(signs("at 0 0 1 1\n")), [-6, 4098, 4])


class TooManyWinds(unittest.TestCase):
    def test_the_4096th_and_4097th(self):
        book = held("boat a\n" + winds(4096))
        self.assertEqual(book.sizes(), [0, 1, 0, 4096])
        self.assertEqual(book.more(signs("wind 5 5\n")), [-6, 4097, 2])
        self.assertEqual(book.take(signs("boat a\n" + winds(4097))), [-6, 4097, 2])
        self.assertEqual(book.more(signs(MOMENT)), [0])
        self.assertEqual(book.boat(0, 0), [0, 1, 1, 0, 0, 1, 1])

    def test_other_reasons_come_first(self):
        book = held("boat a\n" + winds(4096))
        self.assertEqual(book.more(signs("wind 5\n")), [-6, 4097, 1])
        self.assertEqual(book.more(signs("wind 0 0\n")), [-6, 4097, 4])
        self.assertEqual(book.more(signs("wind 1 1\n")), [-6, 4097, 4])


if __name__ == "__main__":
    unittest.main()
