"""What of all judge's answers comes first, its bounds, and that it leaves what it is handed."""

import unittest

from tablerules.rules import judge
from tests.leaving import check_call
from tests.samples import BOOK, DECLARED, TABLE, data, judged

LAMPS = [f"lamp_{k:02d}_long" for k in range(50)]
LAMP_TABLE = "\n".join(
    ["table demo balls 1", "switch s at 0 close 1 open 1"]
    + [f"lamp {name} at {k}" for k, name in enumerate(LAMPS)]
    + ["coil c at 0 most 1 rest 1", "device d by c holds s drain", ""])


def split_up(total, most):
    """Three numbers up to most that make up the total."""
    first = min(total, most)
    second = min(total - first, most)
    return first, second, total - first - second


def long_book(length):
    """A right book of just this length for LAMP_TABLE."""
    step = " ".join(["step", "1"] + LAMPS) + "\n"
    text = ""
    shows = 0
    while length - len(text) > 7000:
        text += " ".join(["show", f"s{shows}", "on"] + LAMPS) + "\n" + 8 * step
        shows += 1
    text += " ".join(["show", "last", "on"] + LAMPS) + "\n"
    while length - len(text) > 1900:
        text += step
    # Three last steps make up the rest by how many digits and lamps they have.
    rest = length - len(text) - 21
    digits = split_up(rest % 13, 4)
    lamps = split_up(rest // 13, 50)
    for k in range(3):
        text += " ".join(["step", "1" * (digits[k] + 1)] + LAMPS[:lamps[k]]) + "\n"
    return text


def long_rules(length):
    """Right rules of just this length, with a short code."""
    lines = ["rules demo\n"]
    rest = length - len(lines[0])
    actions = 29
    while rest > 48:
        lines.append("on coin\n" if actions == 29 else "do hide 0\n")
        actions = 0 if actions == 29 else actions + 1
        rest -= len(lines[-1])
    for more_digits in split_up(rest - 33, 9):
        lines.append("do score " + "1" * (more_digits + 1) + "\n")
    return "".join(lines)


class Bounds(unittest.TestCase):
    def test_table_length(self):
        # No right table is so long: names, places and lines run out before.
        for filler in ("x", "\n", "kick\n"):
            text = TABLE + filler * 17000
            self.assertEqual(judged(DECLARED, table=text[:16384]), [-8])
            self.assertEqual(judged(DECLARED, table=text[:16385]), [-2])
            self.assertEqual(judged(DECLARED, table=text[:17000]), [-2])

    def test_book_length(self):
        for length in (65524, 65530, 65535, 65536):
            book = long_book(length)
            self.assertEqual(len(book), length)
            self.assertEqual(judged("rules demo\n", table=LAMP_TABLE, book=book), [0])
        book = long_book(65537)
        self.assertEqual(len(book), 65537)
        self.assertEqual(judged("rules demo\n", table=LAMP_TABLE, book=book), [-2])
        self.assertEqual(judged(DECLARED, book="x" * 65536), [-8])
        self.assertEqual(judged(DECLARED, book="x" * 66000), [-2])

    def test_rules_length(self):
        for length in (65500, 65535, 65536):
            rules = long_rules(length)
            self.assertEqual(len(rules), length)
            self.assertEqual(judged(rules), [0])
        rules = long_rules(65537)
        self.assertEqual(len(rules), 65537)
        self.assertEqual(judged(rules), [-2])
        self.assertEqual(judged("x" * 65536), [-6, 1, 65536])
        self.assertEqual(judged("x" * 65537), [-2])
        self.assertEqual(judged("x" * 66000), [-2])

    def test_no_byte(self):
        self.assertEqual(judged(DECLARED, table=""), [-8])
        self.assertEqual(judged(DECLARED, book=""), [0])
        self.assertEqual(judged(""), [-6, 1, 0])


class Order(unittest.TestCase):
    def test_too_long_comes_before_all_else(self):
        self.assertEqual(judged("x", table="", book="x" * 65537), [-2])
        self.assertEqual(judged("x" * 65537, table="", book="x"), [-2])
        self.assertEqual(judged("", table="x" * 16385, book="x"), [-2])

    def test_table_and_book_come_before_the_rules(self):
        self.assertEqual(judged("", table="x"), [-8])
        self.assertEqual(judged("", book="x"), [-8])
        self.assertEqual(judged("", table="x", book="x"), [-8])

    def test_a_text_of_one_byte_may_be_any_byte(self):
        for byte in range(256):
            self.assertEqual(judge([byte], [], []), [-8])
            self.assertEqual(judge(data(TABLE), [byte], []), [-8])
            answer = judge(data(TABLE), data(BOOK), [byte])
            # The byte 10 by itself is an ended line without a word.
            self.assertEqual(answer, [-6, 3, 0] if byte == 10 else [-6, 1, 1])


class Leaves(unittest.TestCase):
    CASES = (
        (TABLE, BOOK, DECLARED + "on coin\ndo score 1\n"),
        (TABLE, BOOK, DECLARED + "on coin\n"),
        (TABLE, BOOK, "rules demo\nvar x\n"),
        (TABLE, BOOK + "show x on red\n", DECLARED),
        (TABLE + "kick\n", BOOK, DECLARED),
        ("", "", ""),
    )

    def test_what_is_handed_in_and_what_is_answered(self):
        for texts in self.CASES:
            check_call(self, judge, [data(text) for text in texts], lambda: judged(DECLARED))


if __name__ == "__main__":
    unittest.main()
