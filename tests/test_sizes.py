"""How many of each sort a code has."""

import unittest

from tablerules.rules import sizes
from tests.leaving import check_call
from tests.made import MOST, Made, low_first, padded
from tests.samples import BOOK, DECLARED, TABLE, coded, data
from tests.test_right import EVERYTHING, HEAD, with_action, with_handlers
from tests.worlds import BARE, DEMO, FULL, SMALL

SORTS = ("var", "mine", "timer", "signal", "mode")


def sized(row, world=DEMO):
    return sizes(world.table, world.book, row)


def rules_with(counts, handlers):
    """Rules with so many of each sort."""
    lines = ["rules demo\n"]
    for sort, count in zip(SORTS, counts):
        lines += [f"{sort} {sort}{k}{' 0' if sort in ('var', 'mine') else ''}\n" for k in range(count)]
    return "".join(lines + ["on coin\ndo stop\ndo stop\n"] * handlers)


class Sizes(unittest.TestCase):
    def check(self, counts, handlers):
        row = coded(rules_with(counts, handlers))[1:]
        self.assertEqual(sized(row), [0] + list(counts) + [handlers])

    def test_none_and_the_most(self):
        self.check((0, 0, 0, 0, 0), 0)
        self.check((64, 32, 16, 64, 15), 256)
        self.check((0, 0, 0, 0, 0), 256)
        self.check((64, 32, 16, 64, 15), 0)

    def test_the_most_of_one_sort(self):
        for place, sort in enumerate(SORTS):
            for count in (1, 2, MOST[sort] - 1, MOST[sort]):
                counts = [0, 0, 0, 0, 0]
                counts[place] = count
                self.check(counts, 0)
                self.check(counts, 1)

    def test_others_between(self):
        self.check((1, 2, 3, 4, 5), 6)
        self.check((5, 4, 3, 2, 1), 0)
        self.check((63, 31, 15, 63, 14), 255)
        for handlers in (1, 2, 127, 128, 255, 256):
            self.check((7, 0, 9, 0, 11), handlers)

    def test_written_out(self):
        self.assertEqual(sized(HEAD + [0] * 8), [0, 0, 0, 0, 0, 0, 0])
        self.assertEqual(sized(with_handlers(0, [])), [0, 2, 2, 2, 2, 2, 0])
        self.assertEqual(sized(with_action([0, 15])), [0, 2, 2, 2, 2, 2, 1])
        self.assertEqual(sized(EVERYTHING, SMALL), [0, 1, 1, 1, 1, 1, 2])
        self.assertEqual(sized(coded(DECLARED)[1:]), [0, 3, 2, 2, 2, 2, 0])

    def test_made_up_at_random(self):
        for world in (BARE, SMALL, DEMO, FULL):
            for seed in range(20):
                made = Made(world, seed, handlers=seed)
                self.assertEqual(sized(made.code, world), [0] + [len(made.names[sort]) for sort in SORTS] + [seed])

    def test_a_code_whose_text_is_longer_than_a_text_may_be(self):
        action = [0, 0] + [6] * 29 + [4, 1] * 30
        row = HEAD + [0, 0, 0, 1, 0, 0] + low_first(200, 2) + padded("s") + ([168, 0, 2, 0] + action * 2) * 200
        self.assertEqual(sized(row), [0, 0, 0, 0, 1, 0, 200])


class Refused(unittest.TestCase):
    def test_code_that_is_not_right(self):
        for row in ([], [0], HEAD, HEAD + [0] * 7, HEAD + [0] * 9, HEAD + [1] + [0] * 7, [0] * 65536,
                    with_action([0, 16]), with_handlers(2, [168, 0, 1, 0, 0, 15]), with_handlers(1, [])):
            self.assertEqual(sized(row), [-5])
        for length in range(len(EVERYTHING)):
            self.assertEqual(sized(EVERYTHING[:length], SMALL), [-5])
        # One more of a sort than there may be.
        for place, sort in enumerate(SORTS):
            counts = [0, 0, 0, 0, 0]
            counts[place] = MOST[sort] + 1
            number = [0, 0, 0, 0] if place < 2 else []
            names = [byte for k in range(MOST[sort] + 1) for byte in padded(f"x{k}") + number]
            self.assertEqual(sized(HEAD + counts + [0, 0, 0] + names), [-5])
        self.assertEqual(sized(HEAD + [0] * 6 + low_first(257, 2) + [168, 0, 1, 0, 0, 15] * 257), [-5])

    def test_too_long(self):
        good = HEAD + [0] * 8
        self.assertEqual(sizes(data("x" * 16385), [], good), [-2])
        self.assertEqual(sizes(DEMO.table, data("x" * 65537), good), [-2])
        self.assertEqual(sized([0] * 65537), [-2])
        self.assertEqual(sizes([], [0], [0] * 65537), [-2])

    def test_a_faulty_table_or_book(self):
        for table, book in (("", BOOK), ("x" * 16384, BOOK), (TABLE, "x" * 65536), (TABLE, BOOK + "show a on red\n")):
            for row in (HEAD + [0] * 8, [], [0] * 65536):
                self.assertEqual(sizes(data(table), data(book), row), [-8])


class Leaves(unittest.TestCase):
    def test_what_is_handed_in_and_what_is_answered(self):
        made = Made(FULL, 1)
        for table, book, row in ((FULL.table, FULL.book, made.code), (FULL.table, FULL.book, made.code[:-1]),
                                 (DEMO.table, [], HEAD + [0] * 8), ([], [], []), (DEMO.table, DEMO.book, []),
                                 (DEMO.table, [1], []), (DEMO.table, [], [0] * 65537)):
            check_call(self, sizes, [table, book, row], lambda: sized(EVERYTHING, SMALL))


if __name__ == "__main__":
    unittest.main()
