"""F1: whatever is done to right texts, they are right or have one first fault, and the answer has its form."""

import unittest

from tablerules.rules import judge
from tests.samples import BOOK, DECLARED, TABLE, data

RULES = DECLARED + """on closed bumper in multi
when & < hits 10 ! left saver do score * 100 + hits 1
do set hits + hits 1
do fire pop 30
on ended saver
do hold flip 500
when = bonus -5 do show hello 3
do stop
"""
KINDS = (1, 2, 3, 4, 5, 6, 7, 9, 10)
SIGNS = "\x00\n 0a-%~\x7f"


def changed(text):
    """The text without each of its bytes, with another one in its place, and with one more."""
    for place in range(len(text)):
        yield text[:place] + text[place + 1:]
        for sign in SIGNS:
            yield text[:place] + sign + text[place + 1:]
            yield text[:place] + sign + text[place:]


class Changed(unittest.TestCase):
    def test_rules(self):
        table = data(TABLE)
        book = data(BOOK)
        self.assertEqual(judge(table, book, data(RULES)), [0])
        for text in changed(RULES):
            answer = judge(table, book, data(text))
            if answer != [0]:
                self.assertEqual((len(answer), answer[0]), (3, -6), text)
                self.assertIn(answer[1], KINDS, text)
                self.assertTrue(0 <= answer[2] <= len(text), text)

    def test_what_stands_behind_a_fault_does_not_change_it(self):
        table = data(TABLE)
        book = data(BOOK)
        for text in changed(RULES):
            answer = judge(table, book, data(text))
            if answer == [0] or answer[2] == len(text):
                continue
            end = text.index("\n", answer[2]) + 1
            self.assertEqual(judge(table, book, data(text[:end])), answer, text)
            self.assertEqual(judge(table, book, data(text[:end] + "\x00")), answer, text)

    def test_rules_that_are_cut_off(self):
        table = data(TABLE)
        book = data(BOOK)
        for length in range(len(RULES)):
            text = RULES[:length]
            answer = judge(table, book, data(text))
            if not text.endswith("\n"):
                self.assertEqual(answer, [-6, 1, length])
            elif text.splitlines()[-1].startswith("on "):
                self.assertEqual(answer, [-6, 9, length])
            else:
                self.assertEqual(answer, [0])

    def test_tables_and_books(self):
        rules = data("rules demo\n")
        for text in changed(TABLE):
            self.assertIn(judge(data(text), [], rules), ([0], [-8]), text)
        for text in changed(BOOK):
            self.assertIn(judge(data(TABLE), data(text), rules), ([0], [-8]), text)


if __name__ == "__main__":
    unittest.main()
