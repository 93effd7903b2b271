"""Which codes are right: those of right texts, and no others; and what the call refuses."""

import unittest

from tablerules.rules import code, right
from tests.leaving import check_call
from tests.made import Made, low_first, padded
from tests.oracle import is_right
from tests.samples import BOOK, DECLARED, TABLE, coded, data
from tests.test_code_size import rules_of_size
from tests.test_rules_right import ACTIONS, EVENTS, EXPRESSIONS
from tests.worlds import BARE, DEMO, FULL, SMALL

HEAD = [84, 82, 1, 0] + padded("demo")
# Two of each sort: v, w; m, n; t, u; s, z; o, p.
NAMES = (padded("v") + low_first(-5, 4) + padded("w") + low_first(5, 4) + padded("m") + low_first(0, 4)
         + padded("n") + low_first(1, 4) + padded("t") + padded("u") + padded("s") + padded("z") + padded("o")
         + padded("p"))
SOME_OF_EACH = {"var": 1, "mine": 1, "timer": 1, "signal": 1, "mode": 1}
# One action of each kind, for SMALL; a guard, each part of an expression.
EVERYTHING = (HEAD + [1, 1, 1, 1, 1, 0, 2, 0] + padded("v") + low_first(-5, 4) + padded("abcdefghijkl")
              + low_first(7, 4) + padded("t") + padded("s_0") + padded("o") + [1, 1, 9, 0]
              + [0, 0, 0, 44, 1, 0, 255] + [1, 5, 1, 0, 1, 64, 6, 2, 0, 3, 0] + [0, 2, 0, 44, 1] + [0, 3, 4, 2, 0]
              + [0, 4, 4] + [0, 5, 1, 15] + [0, 6, 0] + [0, 7, 2] + [1, 14, 4, 3, 1, 64, 8, 2]
              + [192, 0, 7, 0] + [0, 9, 0] + [0, 10, 0] + [0, 11, 0, 1, 64] + [0, 12, 0] + [0, 13, 0] + [0, 14, 0]
              + [0, 15])


def demo_right(row):
    return right(DEMO.table, DEMO.book, row)


def with_handlers(count, row):
    """A code for DEMO with two of each sort and handlers of these bytes."""
    return HEAD + [2, 2, 2, 2, 2, 0] + low_first(count, 2) + NAMES + row


def with_action(row):
    return with_handlers(1, [168, 0, 1, 0] + row)


class CodeCase(unittest.TestCase):
    def assert_right(self, row, world=DEMO):
        self.assertEqual(right(world.table, world.book, row), [0], row)
        self.assertTrue(is_right(world, row), row)

    def assert_wrong(self, row, world=DEMO):
        self.assertEqual(right(world.table, world.book, row), [-5], row)
        self.assertFalse(is_right(world, row), row)


class Right(CodeCase):
    def test_codes_of_right_texts(self):
        texts = ["rules demo\n", DECLARED]
        texts += [f"on {event}\ndo stop\n" for event in EVENTS]
        texts += [f"on {event} in wizard\ndo stop\n" for event in EVENTS]
        texts += [f"on coin\nwhen {part} do score {part}\n" for part in EXPRESSIONS]
        texts += [f"on coin\ndo {action}\nwhen hits do {action}\n" for action in ACTIONS]
        for text in texts:
            self.assert_right(coded(text if text.startswith("rules") else DECLARED + text)[1:])

    def test_codes_made_up_at_random(self):
        for world in (BARE, SMALL, DEMO, FULL):
            for seed in range(60):
                self.assert_right(Made(world, seed, handlers=seed % 7, parts=63).code, world)

    def test_as_much_as_there_may_be(self):
        for sort, most, size in ((0, 64, 4), (1, 32, 4), (2, 16, 0), (3, 64, 0), (4, 15, 0)):
            for count, check in ((most, self.assert_right), (most + 1, self.assert_wrong)):
                counts = [0, 0, 0, 0, 0]
                counts[sort] = count
                row = [byte for k in range(count) for byte in padded(f"x{k}") + [0] * size]
                check(HEAD + counts + [0, 0, 0] + row)
        self.assert_right(HEAD + [0] * 6 + low_first(256, 2) + [168, 0, 1, 0, 0, 15] * 256)
        self.assert_right(HEAD + [0] * 6 + low_first(1, 2) + [168, 0, 32, 0] + [0, 15] * 32)
        self.assert_right(HEAD + [0] * 6 + low_first(1, 2) + [168, 0, 1, 0, 0, 0] + [5] * 62 + [0, 0, 0, 0, 0])

    def test_everything(self):
        self.assert_right(EVERYTHING, SMALL)


class Length(CodeCase):
    def filled(self, size):
        """A right code for DEMO of just this size, with a text that's longer by far."""
        handlers = []
        rest = size - 24
        while rest > 1600:
            handlers.append([97] * 16)
            rest -= 4 + 16 * 97
        handlers.append([])
        rest -= 4
        while rest > 2 * 97:
            handlers[-1].append(97)
            rest -= 97
        handlers[-1] += [rest // 2, rest - rest // 2]
        row = []
        for actions in handlers:
            row += [168, 0, len(actions), 0]
            for action in actions:
                row += [0, 0] + self.expression(action - 2)
        return HEAD + [0] * 6 + low_first(len(handlers), 2) + row

    def expression(self, size):
        """An expression of just so many bytes, 2 to 95."""
        operators = min((size - 2) // 3, 31)
        nots = size - 2 - 3 * operators
        return [6] * operators + [5] * nots + [4, 1] * (operators + 1)

    def test_expressions_of_every_size(self):
        for size in range(2, 96):
            row = self.expression(size)
            self.assertEqual(len(row), size)
            self.assert_right(HEAD + [0] * 6 + [1, 0, 168, 0, 1, 0, 0, 0] + row)

    def test_longest_code(self):
        for size in (65535, 65536):
            row = self.filled(size)
            self.assertEqual(len(row), size)
            self.assert_right(row)
        self.assertEqual(demo_right(self.filled(65537)), [-2])
        full = coded(rules_of_size(65536))[1:]
        self.assertEqual(len(full), 65536)
        self.assert_right(full)
        self.assertEqual(demo_right(full + [0]), [-2])
        full[-1] = 2
        self.assert_wrong(full)

    def test_a_text_of_more_than_65536_bytes(self):
        row = self.filled(30000)
        # Each closed trough_b, with its blank, has 16 bytes.
        self.assertGreater(row.count(4) * 16, 65536)
        self.assert_right(row)
        self.assert_wrong(row[:-1])
        self.assert_wrong(row[:-1] + [9])

    def test_no_byte_and_a_few(self):
        self.assert_wrong([])
        for count in range(24):
            self.assert_wrong((HEAD + [0] * 8)[:count])
        self.assert_right(HEAD + [0] * 8)
        for byte in range(256):
            self.assert_wrong([byte])

    def test_long_codes_that_are_not_right(self):
        for byte in (0, 1, 5, 6, 84, 255):
            self.assert_wrong([byte] * 65536)
            self.assert_wrong(HEAD + [0] * 6 + [255, 255] + [byte] * 65512)
            self.assert_wrong(HEAD + [0] * 6 + [1, 0, 168, 0, 1, 0, 0, 0] + [byte] * 65504)
            self.assert_wrong(HEAD + [255] * 5 + [0, 0, 0] + [byte] * 65512)


class Changed(CodeCase):
    """A right code that's cut off, has a byte more, or another byte, is right just if the oracle says so."""

    def check(self, world, row):
        answer = right(world.table, world.book, row)
        self.assertEqual(answer, [0] if is_right(world, row) else [-5], row)
        return answer == [0]

    def codes(self):
        yield SMALL, EVERYTHING
        for seed in range(4):
            for world in (BARE, SMALL, DEMO):
                yield world, Made(world, seed, SOME_OF_EACH, handlers=4).code

    def test_cut_off(self):
        for world, row in self.codes():
            for length in range(len(row)):
                self.assertFalse(self.check(world, row[:length]))
                self.check(world, row[:length] + row[length + 1:])

    def test_a_byte_more(self):
        for world, row in self.codes():
            for byte in range(256):
                self.assertFalse(self.check(world, row + [byte]))
            for place in range(len(row)):
                for byte in (0, 1, 15, 97):
                    self.check(world, row[:place] + [byte] + row[place:])

    def test_any_other_byte(self):
        found = {True: 0, False: 0}
        for place in range(len(EVERYTHING)):
            for byte in range(256):
                row = EVERYTHING[:place] + [byte] + EVERYTHING[place + 1:]
                found[self.check(SMALL, row)] += 1
        self.assertGreater(found[True], 1000)
        self.assertGreater(found[False], 1000)

    def test_some_other_bytes(self):
        for world, row in self.codes():
            for place in range(len(row)):
                for byte in (0, 1, 2, 10, 32, 63, 64, 95, 128, row[place] ^ 1, (row[place] + 1) % 256, 255):
                    self.check(world, row[:place] + [byte] + row[place + 1:])

    def test_another_table(self):
        for seed in range(30):
            for made_for in (SMALL, DEMO, FULL):
                made = Made(made_for, seed, handlers=2, actions=2)
                for world in (BARE, SMALL, DEMO, FULL):
                    self.check(world, made.code)


class Wrong(CodeCase):
    """Each thing that can be wrong, by itself."""

    def test_what_they_are_made_of_is_right(self):
        self.assert_right(HEAD + [0] * 8)
        self.assert_right(with_handlers(0, []))
        self.assert_right(with_action([0, 15]))

    def test_first_bytes(self):
        for place in range(4):
            for byte in (0, 1, 2, 83, 84, 85, 255):
                row = HEAD + [0] * 8
                if row[place] != byte:
                    row[place] = byte
                    self.assert_wrong(row)

    def test_names(self):
        wrong = (b"", b"A", b"0", b"_", b"aB", b"a b", b"a\n", b"a-", b"%", b"a\xff", b"\x80", b"a\x1f", b"a\x7f",
                 b"a\0b", b"a\0\0\0\0\0\0\0\0\0\0b", b"\0a", b"a\0\x20", b"a 1", b"a\nvar b 1", b"abcdefghijkL", b" a",
                 b"a ")
        for name in wrong:
            name = list(name.ljust(12, b"\0"))
            self.assert_wrong([84, 82, 1, 0] + name + [0] * 8)
            for sort in range(5):
                counts = [0, 0, 0, 0, 0]
                counts[sort] = 1
                number = [0, 0, 0, 0] if sort < 2 else []
                self.assert_wrong(HEAD + counts + [0, 0, 0] + name + number)
                self.assert_right(HEAD + counts + [0, 0, 0] + padded("a") + number)

    def test_counts(self):
        row = with_handlers(0, [])
        for place in range(16, 24):
            for byte in (0, 1, 3, 65, 128, 255):
                changed = row[:place] + [byte] + row[place + 1:]
                if changed != row:
                    self.assert_wrong(changed)

    def test_too_many_of_a_sort_used(self):
        # A 65th var would have the first mine's number, a 17th timer the first device's event.
        names = [byte for k in range(65) for byte in padded(f"v{k}") + [0] * 4]
        self.assert_wrong(HEAD + [65, 0, 0, 0, 0, 0, 1, 0] + names + [168, 0, 1, 0, 0, 0, 1, 64])
        names = [byte for k in range(17) for byte in padded(f"v{k}")]
        self.assert_wrong(HEAD + [0, 0, 17, 0, 0, 0, 1, 0] + names + [144, 0, 1, 0, 0, 15])
        self.assert_wrong(HEAD + [0, 0, 17, 0, 0, 0, 1, 0] + names + [168, 0, 1, 0, 0, 12, 16])
        names = [byte for k in range(16) for byte in padded(f"v{k}")]
        self.assert_wrong(HEAD + [0, 0, 0, 0, 16, 0, 1, 0] + names + [168, 16, 1, 0, 0, 15])

    def test_257_handlers(self):
        self.assert_wrong(HEAD + [0] * 6 + low_first(257, 2) + [168, 0, 1, 0, 0, 15] * 257)

    def test_the_byte_0_of_the_head_and_of_a_handler(self):
        for byte in (1, 15, 255):
            row = with_action([0, 15])
            row[21] = byte
            self.assert_wrong(row)
            self.assert_wrong(with_handlers(1, [168, 0, 1, byte, 0, 15]))

    def test_two_names_alike(self):
        for sort in range(5):
            counts = [0, 0, 0, 0, 0]
            counts[sort] = 3
            number = [0, 0, 0, 0] if sort < 2 else []
            for second, check in (("b", self.assert_right), ("a", self.assert_wrong), ("c", self.assert_wrong)):
                row = [byte for name in ("a", second, "c") for byte in padded(name) + number]
                check(HEAD + counts + [0, 0, 0] + row)
        self.assert_wrong(HEAD + [1, 1, 0, 0, 0, 0, 0, 0] + 2 * (padded("a") + [0, 0, 0, 0]))
        self.assert_right(HEAD + [1, 0, 1, 1, 1, 0, 0, 0] + padded("a") + [0, 0, 0, 0] + 3 * padded("a"))

    def test_barred_variables(self):
        for name in ("left", "in", "closed"):
            self.assert_wrong(HEAD + [1, 0, 0, 0, 0, 0, 0, 0] + padded(name) + [0, 0, 0, 0])
            self.assert_wrong(HEAD + [0, 1, 0, 0, 0, 0, 0, 0] + padded(name) + [0, 0, 0, 0])
            self.assert_right(HEAD + [0, 0, 1, 1, 1, 0, 0, 0] + 3 * padded(name))
        self.assert_right(HEAD + [1, 0, 0, 0, 0, 0, 0, 0] + padded("lefts") + [0, 0, 0, 0])

    def test_events(self):
        events = [0, 1, 2, 10, 11, 63, 64, 65, 66, 74, 75, 127, 128, 129, 144, 152, 160] + list(range(168, 175))
        events += [192, 193]
        for event in range(256):
            check = self.assert_right if event in events else self.assert_wrong
            check(with_handlers(1, [event, 0, 1, 0, 0, 15]))
            check(with_handlers(1, [event, 2, 1, 0, 0, 15]))

    def test_modes_of_handlers(self):
        for mode in range(256):
            check = self.assert_right if mode <= 2 else self.assert_wrong
            check(with_handlers(1, [168, mode, 1, 0, 0, 15]))

    def test_how_many_actions(self):
        for count in range(256):
            check = self.assert_right if 1 <= count <= 32 else self.assert_wrong
            check(with_handlers(1, [168, 0, count, 0] + [0, 15] * count))
        self.assert_wrong(with_handlers(2, [168, 0, 0, 0, 168, 0, 1, 0, 0, 15]))

    def test_guards(self):
        self.assert_right(with_action([1, 1, 0, 15]))
        for byte in range(1, 256):
            self.assert_wrong(with_action([byte, 15]))
        for byte in range(2, 256):
            self.assert_wrong(with_action([byte, 1, 0, 15]))

    def test_kinds(self):
        for kind in range(16, 256):
            self.assert_wrong(with_action([0, kind]))
            self.assert_wrong(with_action([0, kind, 0]))
            self.assert_wrong(with_action([0, kind, 1, 0]))

    def test_what_belongs_to_an_action(self):
        variables = (0, 1, 64, 65)
        coils = (0, 1, 7, 31)
        lamps = (0, 5, 63)
        rows = ((1, variables, [1, 0]), (4, coils, []), (5, (0, 1), [0]), (6, range(16), []), (7, lamps, []),
                (8, lamps, []), (9, (0, 1), []), (10, (0, 1), []), (11, (0, 1), [1, 0]), (12, (0, 1), []),
                (13, (0, 1), []), (14, (0,), []), (2, coils, [1, 0]), (3, (7, 31), [1, 0]))
        for kind, allowed, behind in rows:
            for byte in range(256):
                check = self.assert_right if byte in allowed else self.assert_wrong
                check(with_action([0, kind, byte] + behind))
        for level in range(256):
            check = self.assert_right if level <= 15 else self.assert_wrong
            check(with_action([0, 5, 1, level]))

    def test_times(self):
        for kind, place, most in ((2, 0, 20), (2, 1, 30), (2, 7, 1023), (2, 31, 255), (3, 7, 1023), (3, 31, 255)):
            for time in (0, 1, 2, most - 1, most, most + 1, 1023, 1024, 256, 65535, 32769):
                check = self.assert_right if 1 <= time <= most else self.assert_wrong
                check(with_action([0, kind, place] + low_first(time, 2)))

    def test_parts_of_expressions(self):
        rows = ((1, (0, 1, 64, 65)), (2, (0, 1)), (3, (0, 1)), (4, (0, 1, 2, 10, 11, 63)))
        for kind, allowed in rows:
            for byte in range(256):
                check = self.assert_right if byte in allowed else self.assert_wrong
                check(with_action([0, 0, kind, byte]))
                check(with_action([1, kind, byte, 15]))
        for kind in range(256):
            check = self.assert_right if kind == 5 else self.assert_wrong
            check(with_action([0, 0, kind, 1, 0]))
            # Four bytes behind 0 are a number.
            check = self.assert_right if kind == 0 or 6 <= kind <= 14 else self.assert_wrong
            check(with_action([0, 0, kind, 1, 0, 1, 0]))
        for number in ([0, 0, 0, 0], [255, 255, 255, 255], [0, 0, 0, 128], [255, 255, 255, 127], [10, 32, 0, 200]):
            self.assert_right(with_action([0, 0, 0] + number))

    def test_how_many_parts(self):
        for parts in (62, 63, 64, 65, 300):
            check = self.assert_right if parts <= 63 else self.assert_wrong
            check(with_action([0, 0] + [5] * (parts - 1) + [1, 0]))
            check(with_action([1] + [5] * (parts - 1) + [4, 63, 15]))
        for operators in (30, 31, 32):
            check = self.assert_right if operators <= 31 else self.assert_wrong
            check(with_action([0, 0] + [14] * operators + [1, 64] * (operators + 1)))
            check(with_action([0, 11, 1] + [6, 0, 1, 0, 0, 0] * operators + [2, 0]))

    def test_63_parts_more_than_once(self):
        most = [5] * 62 + [1, 0]
        self.assert_right(with_action([1] + most + [0] + most))

    def test_sorts_that_are_not_there(self):
        bare = HEAD + [0] * 6 + [1, 0]
        for row in ([128, 0, 1, 0, 0, 15], [192, 0, 1, 0, 0, 15], [168, 1, 1, 0, 0, 15], [168, 0, 1, 0, 0, 5, 0, 0],
                    [168, 0, 1, 0, 0, 7, 0], [168, 0, 1, 0, 0, 0, 1, 0], [168, 0, 1, 0, 0, 0, 2, 0],
                    [168, 0, 1, 0, 0, 0, 3, 0], [168, 0, 1, 0, 0, 0, 1, 64], [168, 0, 1, 0, 0, 13, 0]):
            self.assert_wrong(bare + row, BARE)
        self.assert_right(bare + [7, 0, 1, 0, 0, 0, 4, 7], BARE)


class Refused(unittest.TestCase):
    GOOD = HEAD + [0] * 8

    def test_too_long(self):
        self.assertEqual(right(data("x" * 16384), [], self.GOOD), [-8])
        self.assertEqual(right(data("x" * 16385), [], self.GOOD), [-2])
        self.assertEqual(right(DEMO.table, data("x" * 65536), self.GOOD), [-8])
        self.assertEqual(right(DEMO.table, data("x" * 65537), self.GOOD), [-2])
        self.assertEqual(demo_right([0] * 65536), [-5])
        self.assertEqual(demo_right([0] * 65537), [-2])
        self.assertEqual(demo_right([0] * 66000), [-2])
        self.assertEqual(right([], [0], [0] * 65537), [-2])

    def test_a_faulty_table_or_book(self):
        for table, book in (("", BOOK), (TABLE + "kick\n", BOOK), (TABLE, "x"), (TABLE, BOOK + "show a on red\n"),
                            ("", "x")):
            for row in (self.GOOD, [], [0] * 65536):
                self.assertEqual(right(data(table), data(book), row), [-8])

    def test_a_text_is_no_code(self):
        self.assertEqual(demo_right(data(DECLARED)), [-5])


class Leaves(unittest.TestCase):
    def test_what_is_handed_in_and_what_is_answered(self):
        made = Made(FULL, 1)
        for table, book, row in ((FULL.table, FULL.book, made.code), (FULL.table, FULL.book, made.code[:-1]),
                                 (DEMO.table, DEMO.book, made.code), (DEMO.table, [], HEAD + [0] * 8), ([], [], []),
                                 (DEMO.table, DEMO.book, []), (DEMO.table, [1], []), (DEMO.table, [], [0] * 65537)):
            check_call(self, right, [table, book, row], lambda: (demo_right(EVERYTHING), code([], [], [])))


if __name__ == "__main__":
    unittest.main()
