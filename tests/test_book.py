"""Books of shows: right ones, and each fault; judge tells any of them by -8, the reader its kind and place."""

import unittest

from tablerules.book import read_book
from tablerules.fault import Fault
from tests.samples import BOOK, data, judged, marked

RULES = "rules demo\n"
LAMPS = {"red": 0, "green": 5, "blue": 63}
SHOW = "show a on red blue\n"


class BookCase(unittest.TestCase):
    def assert_right(self, book):
        self.assertEqual(judged(RULES, book=book), [0], book)

    def assert_fault(self, kind, text):
        """The fault is where the text has its mark."""
        book, place = marked(text)
        self.assertEqual(judged(RULES, book=book), [-8], book)
        with self.assertRaises(Fault) as caught:
            read_book(LAMPS, data(book))
        self.assertEqual((caught.exception.kind, caught.exception.place), (kind, place), text)


class Right(BookCase):
    def test_ordinary(self):
        self.assert_right(BOOK)
        self.assert_right(SHOW + "step 1\n")
        self.assert_right("show loop on red loop\nstep 65535 red\n")
        self.assert_right("show a on blue\nstep 1 blue\nstep 2\nshow red on red green\nstep 1 green\n")

    def test_no_show(self):
        self.assert_right("")

    def test_most_shows_and_steps(self):
        self.assert_right("".join(f"show s{k} on red\nstep 1\n" for k in range(32)))
        self.assert_right(SHOW + "step 1 red\n" * 16)
        self.assert_right((SHOW + "step 1 red\n" * 16) + (SHOW.replace("show a", "show b") + "step 1 red\n" * 16))


class Faults(BookCase):
    def test_1_not_ended(self):
        self.assert_fault(1, "x^")
        self.assert_fault(1, SHOW + "step 1^")
        self.assert_fault(1, SHOW + "step 1\nwhat \x00 ^")

    def test_2_bytes(self):
        for byte in ("\x00", "\t", "\x7f", "\xe4"):
            self.assert_fault(2, f"show a on red^{byte}\n")
        self.assert_fault(2, "^ show a on red\n")
        self.assert_fault(2, "show a ^ on red\n")
        self.assert_fault(2, "show a on red^ \n")

    def test_3_first_words(self):
        self.assert_fault(3, "^\n")
        self.assert_fault(3, "^shows a on red\n")
        self.assert_fault(3, "^step 1\n")
        self.assert_fault(3, SHOW + "^show b on red\n")
        self.assert_fault(3, SHOW + "step 1\n" * 16 + "^step 1\n")
        self.assert_fault(3, "".join(f"show s{k} on red\nstep 1\n" for k in range(32)) + "^show z on red\n")

    def test_3_words_within_lines(self):
        for line in ("show^", "show a^", "show a ^at red", "show a on^", "show a on red loop ^loop",
                     "show a on red loop ^blue"):
            self.assert_fault(3, line + "\n")
        self.assert_fault(3, SHOW + "step^\n")

    def test_4_names_and_numbers(self):
        for name in ("A", "1", "abcdefghijklm", "a-"):
            self.assert_fault(4, f"show ^{name} on red\n")
            self.assert_fault(4, f"show a on ^{name}\n")
            self.assert_fault(4, f"show a on red ^{name}\n")
            self.assert_fault(4, SHOW + f"step 1 ^{name}\n")
        for number in ("0", "65536", "01", "-1", "red", "9" * 5000):
            self.assert_fault(4, SHOW + f"step ^{number}\n")

    def test_5_names_and_places(self):
        self.assert_fault(5, SHOW + "step 1\nshow ^a on red\n")
        self.assert_fault(5, "show a on red ^red\n")
        self.assert_fault(5, "show a on blue ^green\n")
        self.assert_fault(5, "show a on red blue ^green\n")
        self.assert_fault(5, "show a on red green blue\nstep 1 red blue ^green\n")
        self.assert_fault(5, SHOW + "step 1 blue ^red\n")
        self.assert_fault(5, SHOW + "step 1 red ^red\n")

    def test_5_comes_before_a_steps_6(self):
        self.assert_fault(5, SHOW + "step 1 blue ^green\n")

    def test_6_lamps(self):
        self.assert_fault(6, "show a on ^white\n")
        self.assert_fault(6, "show a on ^loop\n")
        self.assert_fault(6, "show a on red ^white\n")
        self.assert_fault(6, SHOW + "step 1 ^white\n")
        self.assert_fault(6, SHOW + "step 1 ^green\n")
        self.assert_fault(6, SHOW + "step 1 red ^loop\n")

    def test_9_the_last_show_has_no_step(self):
        self.assert_fault(9, SHOW + "^")
        self.assert_fault(9, SHOW + "step 1\nshow b on red loop\n^")

    def test_the_first_of_two(self):
        self.assert_fault(4, "show ^A on white\n\n")
        self.assert_fault(3, "^\nstep\x00")


if __name__ == "__main__":
    unittest.main()
