"""F3: finds say what the code says."""

import unittest

from tablerules.rules import find
from tests.leaving import check_call
from tests.made import MOST, Made, low_first, padded
from tests.samples import BOOK, DECLARED, TABLE, coded, data
from tests.test_right import EVERYTHING, HEAD
from tests.worlds import BARE, DEMO, FULL, SMALL

SORTS = ("var", "mine", "timer", "signal", "mode")
NAMES = (("hits", "low", "high"), ("bonus", "best"), ("saver", "left"), ("jackpot", "lit"), ("multi", "wizard"))
CODE = coded(DECLARED + "on coin\ndo stop\n")[1:]


def found(sort, name, row=CODE, world=DEMO):
    return find(sort, world.table, world.book, row, data(name))


class Found(unittest.TestCase):
    def test_every_name_of_every_sort(self):
        for sort, names in enumerate(NAMES):
            for number, name in enumerate(names):
                self.assertEqual(found(sort, name), [0, number])

    def test_names_of_other_sorts(self):
        for sort in range(5):
            for other, names in enumerate(NAMES):
                for name in names:
                    if other != sort:
                        self.assertEqual(found(sort, name), [-4])
            # The rules' own name, and names of the table and the book.
            for name in ("demo", "bumper", "in", "red", "pop", "trough", "hello"):
                self.assertEqual(found(sort, name), [-4])

    def test_a_name_that_several_sorts_have(self):
        row = coded("rules a\nvar b 0\nmine a 0\ntimer b\ntimer c\ntimer a\nsignal a\nsignal b\nmode c\nmode b\n")[1:]
        self.assertEqual([found(sort, "a", row) for sort in range(5)], [[-4], [0, 0], [0, 2], [0, 0], [-4]])
        self.assertEqual([found(sort, "b", row) for sort in range(5)], [[0, 0], [-4], [0, 0], [0, 1], [0, 1]])
        self.assertEqual([found(sort, "c", row) for sort in range(5)], [[-4], [-4], [0, 1], [-4], [0, 0]])

    def test_as_many_as_there_may_be(self):
        lines = "rules a\n" + "".join(f"{sort} {sort}{99 - k}{' 0' if sort in ('var', 'mine') else ''}\n"
                                      for sort in SORTS for k in range(MOST[sort]))
        row = coded(lines)[1:]
        for sort, word in enumerate(SORTS):
            for number in range(MOST[word]):
                self.assertEqual(found(sort, f"{word}{99 - number}", row), [0, number])
            self.assertEqual(found(sort, f"{word}{99 - MOST[word]}", row), [-4])

    def test_made_up_at_random(self):
        for world in (BARE, SMALL, DEMO):
            for seed in range(8):
                made = Made(world, seed, {"var": 6, "mine": 6, "timer": 6, "signal": 6, "mode": 6})
                everything = {name for names in made.names.values() for name in names}
                for sort, word in enumerate(SORTS):
                    for name in sorted(everything):
                        names = made.names[word]
                        answer = [0, names.index(name)] if name in names else [-4]
                        self.assertEqual(found(sort, name, made.code, world), answer)

    def test_a_code_whose_text_is_longer_than_a_text_may_be(self):
        action = [0, 0] + [6] * 29 + [4, 1] * 30
        row = (HEAD + [0, 1, 0, 0, 1, 0] + low_first(200, 2) + padded("own") + [0, 0, 0, 0] + padded("deep")
               + ([168, 0, 2, 0] + action * 2) * 200)
        self.assertEqual(found(1, "own", row), [0, 0])
        self.assertEqual(found(4, "deep", row), [0, 0])
        self.assertEqual(found(4, "own", row), [-4])


class NotFound(unittest.TestCase):
    def test_names_that_are_nearly_there(self):
        for sort, names in enumerate(NAMES):
            for name in names:
                for other in (name[:-1], name[:1], name + "\0", name + "\0\0", name.ljust(12, "\0"), name + "a",
                              name + " ", name + "\n", name.upper(), name[::-1], " " + name, name * 2, "\0" + name,
                              name.ljust(100, "\0"), name.ljust(13, "\0")):
                    self.assertEqual(found(sort, other), [-4], other)

    def test_names_of_many_lengths(self):
        row = coded("rules a\n" + "".join(
            f"{sort} abcdefghijkl{' 0' if sort == 'var' else ''}\n{sort} a{' 0' if sort == 'var' else ''}\n"
            for sort in ("var", "timer", "signal", "mode")))[1:]
        for sort in (0, 2, 3, 4):
            self.assertEqual(found(sort, "abcdefghijkl", row), [0, 0])
            self.assertEqual(found(sort, "a", row), [0, 1])
            for name in ("", "abcdefghijk", "abcdefghijklm", "abcdefghijkl\0", "abcdefghijkla", "a" * 12, "a" * 13,
                         "a" * 100, "abcdefghijkl" * 8, "abcdefghijkm", "bbcdefghijkl"):
                self.assertEqual(found(sort, name, row), [-4], name)

    def test_any_byte(self):
        row = coded("rules a\nvar a 0\nmine b 0\ntimer c\nsignal d\nmode e\n")[1:]
        for sort in range(5):
            for byte in range(256):
                answer = [0, 0] if byte == 97 + sort else [-4]
                self.assertEqual(find(sort, DEMO.table, DEMO.book, row, [byte]), answer)
                self.assertEqual(find(sort, DEMO.table, DEMO.book, row, [97 + sort, byte]), [-4])

    def test_none_of_a_sort(self):
        row = coded("rules demo\n")[1:]
        for sort in range(5):
            for name in ("", "demo", "a", "\0", "\0" * 12):
                self.assertEqual(found(sort, name, row), [-4])

    def test_sorts(self):
        for sort in (5, 6, 64, 255, 256, 4294967295):
            self.assertEqual(found(sort, "hits"), [-1])
            self.assertEqual(found(sort, ""), [-1])


class Refused(unittest.TestCase):
    """Each refusal, and of any two that are due the one told first."""

    # What is wrong, and what is handed in for it: sort, table, book, code, name.
    LONG = {"table": data("x" * 16385), "book": data("x" * 65537), "code": CODE + [0] * 65537}
    FAULTY = {"table": data(TABLE + "kick\n"), "book": data(BOOK + "show x on red\n")}
    RIGHT = {"sort": 0, "table": DEMO.table, "book": DEMO.book, "code": CODE, "name": data("hits")}

    def asked(self, **changes):
        handed = dict(self.RIGHT, **changes)
        return find(handed["sort"], handed["table"], handed["book"], handed["code"], handed["name"])

    def test_each(self):
        self.assertEqual(self.asked(), [0, 0])
        for word, row in self.LONG.items():
            self.assertEqual(self.asked(**{word: row}), [-2])
        for word, row in self.FAULTY.items():
            self.assertEqual(self.asked(**{word: row}), [-8])
        for row in ([], CODE[:-1], CODE + [0], [0] * 65536):
            self.assertEqual(self.asked(code=row), [-5])
        self.assertEqual(self.asked(sort=5), [-1])
        self.assertEqual(self.asked(name=data("hit")), [-4])

    def test_two_together(self):
        ways = [(-2, {word: row}) for word, row in self.LONG.items()]
        ways += [(-8, {word: row}) for word, row in self.FAULTY.items()]
        ways += [(-5, {"code": CODE[:-1]}), (-1, {"sort": 5}), (-1, {"sort": 4294967295}), (-4, {"name": []}),
                 (-4, {"name": data("nobody")})]
        for place, (number, changes) in enumerate(ways):
            for others in ways[place:]:
                if not set(changes) & set(others[1]):
                    self.assertEqual(self.asked(**changes, **others[1]), [number])

    def test_all_together(self):
        self.assertEqual(find(5, self.LONG["table"], [0], [0], []), [-2])
        self.assertEqual(find(5, [], [0], [0], []), [-8])
        self.assertEqual(find(5, DEMO.table, DEMO.book, [0], []), [-5])
        self.assertEqual(find(5, DEMO.table, DEMO.book, CODE, []), [-1])

    def test_any_other_byte_of_the_code(self):
        for place in range(4):
            self.assertEqual(self.asked(code=CODE[:place] + [7] + CODE[place + 1:]), [-5])
        self.assertEqual(self.asked(code=CODE, name=data("hits")), [0, 0])


class Leaves(unittest.TestCase):
    def test_what_is_handed_in_and_what_is_answered(self):
        made = Made(FULL, 1)
        for arguments in ([0, DEMO.table, DEMO.book, CODE, data("low")], [1, DEMO.table, DEMO.book, CODE, data("low")],
                          [5, DEMO.table, DEMO.book, CODE, data("low")], [2, DEMO.table, DEMO.book, CODE[1:], []],
                          [4, FULL.table, FULL.book, made.code, data(made.names["mode"][-1])], [0, [], [], [], []],
                          [4294967295, [0] * 17000, [0] * 66000, [0] * 66000, [0] * 100]):
            check_call(self, find, arguments, lambda: found(2, "t", EVERYTHING, SMALL))


if __name__ == "__main__":
    unittest.main()
