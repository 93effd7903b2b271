"""The text of a code: each right code has one, which is read as that code."""

import unittest

from tablerules.rules import code, judge, right, text
from tests.leaving import check_call
from tests.made import Made, low_first, padded
from tests.samples import BOOK, DECLARED, TABLE, data
from tests.test_right import EVERYTHING, HEAD, with_action, with_handlers
from tests.test_rules_right import ACTIONS, EVENTS, EXPRESSIONS, nested, wide
from tests.worlds import BARE, DEMO, FULL, SMALL

NUMBERS = (0, 1, -1, 9, 10, 255, 256, -256, 65536, 1000000000, 2147483646, 2147483647, -2147483647, -2147483648)


def told(row, world=DEMO):
    return text(world.table, world.book, row)


class TextCase(unittest.TestCase):
    def assert_told(self, rules, world=DEMO):
        """The text of the code of these rules is their text."""
        answer = code(world.table, world.book, data(rules))
        self.assertEqual(answer[0], 0, rules)
        self.assertEqual(told(answer[1:], world), [0] + data(rules), rules)


class Texts(TextCase):
    """Right texts are told as they were read."""

    def test_declared(self):
        self.assert_told("rules demo\n")
        self.assert_told("rules a\n")
        self.assert_told("rules abcdefghijkl\n")
        self.assert_told(DECLARED)
        for line in ("var a 0", "mine a 0", "timer a", "signal a", "mode a", "on coin\ndo stop"):
            self.assert_told(f"rules demo\n{line}\n")
            self.assert_told(f"rules demo\n{line.replace(' a', ' z9_456789abc')}\n")

    def test_numbers(self):
        for number in NUMBERS:
            self.assert_told(f"rules demo\nvar a {number}\nmine b {number}\n")
            self.assert_told(f"rules demo\non coin\ndo score {number}\nwhen = {number} - {number} {number} do stop\n")

    def test_events(self):
        for event in EVENTS:
            self.assert_told(DECLARED + f"on {event}\ndo stop\n")
            self.assert_told(DECLARED + f"on {event} in wizard\ndo stop\n")
        self.assert_told(DECLARED + "".join(f"on {event} in multi\ndo stop\n" for event in EVENTS))

    def test_expressions(self):
        for part in EXPRESSIONS:
            self.assert_told(DECLARED + f"on coin\ndo score {part}\ndo set hits {part}\ndo run saver {part}\n")
            self.assert_told(DECLARED + f"on coin\nwhen {part} do stop\nwhen {part} do score {part}\n")
        for sign in "+-*/%<=&|":
            self.assert_told(DECLARED + f"on coin\nwhen {sign} hits -1 do score {sign} {sign} 1 2 {sign} hits best\n")

    def test_63_parts(self):
        for part in (nested(63), wide(63), "- " * 31 + "1 " * 31 + "1", "+ 1 " * 30 + "! ! left left"):
            self.assert_told(DECLARED + f"on coin\ndo score {part}\nwhen {part} do run left {part}\n")

    def test_actions(self):
        for action in ACTIONS:
            self.assert_told(DECLARED + f"on coin\ndo {action}\nwhen hits do {action}\n")
        self.assert_told(DECLARED + "on coin\n" + "".join(f"do {action}\n" for action in ACTIONS))
        for level in range(16):
            self.assert_told(DECLARED + f"on coin\ndo hide {level}\ndo show bye {level}\n")

    def test_words_as_names(self):
        self.assert_told(
            "rules on\nvar do 1\nvar when 1\nmine score 1\ntimer on\ntimer left\nsignal in\nmode in\nmode closed\n"
            "on sent in in in\nwhen do do score score\nwhen when do set do in in\nwhen left on do stop\n"
            "on closed in in closed\nwhen left left do run left closed in\n")

    def test_everything_there_is(self):
        lines = [f"on closed {name}\ndo score closed {name}\non opened {name}\ndo stop\n" for name in FULL.switches]
        lines += [f"on coin\ndo light {name}\ndo dark {name}\n" for name in FULL.lamps]
        lines += [f"on coin\ndo fire {name} {most}\ndo release {name}\n" for name, (at, most, hold) in FULL.coils.items()]
        lines += [f"on coin\ndo hold {name} {most}\n" for name, (at, most, hold) in FULL.coils.items() if hold]
        lines += [f"on gained {name}\ndo eject {name}\non parted {name}\ndo stop\non stuck {name}\ndo stop\n"
                  for name in FULL.devices]
        lines += [f"on coin\ndo show {name} 3\n" for name in FULL.shows]
        for first in range(0, len(lines), 80):
            self.assert_told("rules all\n" + "".join(lines[first:first + 80]), FULL)

    def test_as_many_as_there_may_be(self):
        counts = {"var": 64, "mine": 32, "timer": 16, "signal": 64, "mode": 15}
        head = "rules a\n" + "".join(
            f"{sort} {sort}{99 - k}{' -1' if sort in ('var', 'mine') else ''}\n"
            for sort, count in counts.items() for k in range(count))
        self.assert_told(head)
        uses = [f"set var{99 - k} var{36 + k}" for k in range(64)] + [f"set mine{99 - k} var99" for k in range(32)]
        uses += [f"run timer{99 - k} left timer{84 + k}" for k in range(16)] + [f"send signal{99 - k}" for k in range(64)]
        uses += [f"begin mode{99 - k}" for k in range(15)] + [f"finish mode{99 - k}" for k in range(15)]
        handlers = "".join(f"on coin in mode{99 - k % 15}\ndo {use}\n" for k, use in enumerate(uses))
        self.assert_told(head + handlers)
        events = [f"ended timer{99 - k}" for k in range(16)] + [f"sent signal{99 - k}" for k in range(64)]
        self.assert_told(head + "".join(f"on {event}\ndo stop\n" for event in events))
        self.assert_told("rules a\n" + "on coin\ndo stop\n" * 256)
        self.assert_told("rules a\non coin\n" + "do stop\n" * 32)

    def test_made_up_at_random(self):
        for world in (BARE, SMALL, DEMO, FULL):
            for seed in range(60):
                made = Made(world, seed, handlers=seed % 7, parts=63)
                self.assertEqual(told(made.code, world), [0] + made.text, made.lines)


class Codes(unittest.TestCase):
    """The text of a right code is read as that code."""

    def check(self, row, world=DEMO):
        answer = told(row, world)
        if answer == [-5]:
            self.assertEqual(right(world.table, world.book, row), [-5])
            return False
        self.assertEqual(answer[0], 0, row)
        self.assertEqual(right(world.table, world.book, row), [0])
        self.assertEqual(judge(world.table, world.book, answer[1:]), [0], row)
        self.assertEqual(code(world.table, world.book, answer[1:]), [0] + row)
        return True

    def test_codes_with_another_byte(self):
        found = {True: 0, False: 0}
        for place in range(len(EVERYTHING)):
            for byte in (0, 1, 2, 5, 14, 48, 97, 122, 128, 255, EVERYTHING[place] ^ 1):
                found[self.check(EVERYTHING[:place] + [byte] + EVERYTHING[place + 1:], SMALL)] += 1
        self.assertGreater(found[True], 100)
        self.assertGreater(found[False], 100)

    def test_every_byte_of_a_number(self):
        for place in range(4):
            for byte in range(256):
                number = [7, 7, 7, 7]
                number[place] = byte
                self.assertTrue(self.check(with_action([0, 0, 0] + number)))

    def test_every_event_and_kind(self):
        for event in range(256):
            self.check(with_handlers(1, [event, 0, 1, 0, 0, 15]))
            self.check(with_handlers(1, [event, 1, 1, 0, 0, 15]))
        for kind in range(256):
            for behind in ([], [1], [1, 0], [1, 1, 0], [1, 64, 1, 65]):
                self.check(with_action([0, kind] + behind))

    def test_written_out(self):
        row = with_handlers(2, [10, 2, 2, 0] + [1, 7, 1, 65, 0, 254, 255, 255, 255, 1, 64, 10, 2, 1, 3, 0]
                            + [0, 2, 7, 255, 3] + [193, 0, 1, 0] + [0, 5, 1, 15])
        self.assertEqual(bytes(told(row)[1:]).decode(), """rules demo
var v -5
var w 5
mine m 0
mine n 1
timer t
timer u
signal s
signal z
mode o
mode p
on closed bumper in p
when - n -2 do set m % left u in o
do fire flip 1023
on sent z
do show bye 15
""")
        self.assertTrue(self.check(row))

    def test_a_text_of_more_than_65536_bytes(self):
        # 200 handlers of two actions of 30 parts, each of them closed and a name.
        line = "do score " + "+ " * 29 + "closed trough_b " * 29 + "closed trough_b\n"
        action = [0, 0] + [6] * 29 + [4, 1] * 30
        row = HEAD + [0] * 6 + low_first(200, 2) + ([168, 0, 2, 0] + action * 2) * 200
        lines = "rules demo\n" + ("on coin\n" + line * 2) * 200
        self.assertLess(len(row), 65536)
        self.assertGreater(len(lines), 3 * 65536)
        self.assertEqual(told(row), [0] + data(lines))
        self.assertEqual(code(DEMO.table, DEMO.book, data(lines)), [-2])
        self.assertEqual(told(row + [0]), [-5])

    def test_texts_about_65536_bytes_long(self):
        # 248 handlers of 264 bytes and one that makes up the rest.
        head = "rules demo\n" + ("on coin\n" + "do stop\n" * 32) * 248
        row = HEAD + [0] * 6 + low_first(249, 2) + ([168, 0, 32, 0] + [0, 15] * 32) * 248
        for length in range(65530, 65545):
            rest = length - len(head) - len("on coin\n")
            # A score of one to eight digits makes up what whole lines of eight bytes leave.
            stops = (rest - len("do score 1\n")) // 8
            digits = rest - 8 * stops - len("do score \n")
            lines = head + "on coin\n" + "do stop\n" * stops + "do score " + "1" * digits + "\n"
            self.assertEqual(len(lines), length)
            behind = [168, 0, stops + 1, 0] + [0, 15] * stops + [0, 0, 0] + low_first(int("1" * digits), 4)
            self.assertEqual(told(row + behind), [0] + data(lines))
            answer = code(DEMO.table, DEMO.book, data(lines))
            self.assertEqual(answer, [0] + row + behind if length <= 65536 else [-2])


class Refused(unittest.TestCase):
    def test_code_that_is_not_right(self):
        for row in ([], [0], HEAD, HEAD + [0] * 7, HEAD + [0] * 9, HEAD + [1] + [0] * 7, [0] * 65536,
                    with_action([0, 16]), with_action([2, 15]), with_action([0, 0, 15]), with_action([0, 5, 2, 0]),
                    with_action([0, 0] + [5] * 63 + [1, 0]), with_handlers(1, [175, 0, 1, 0, 0, 15]),
                    with_handlers(1, [168, 0, 0, 0]), with_handlers(1, [168, 0, 33, 0] + [0, 15] * 33)):
            self.assertEqual(told(row), [-5])
        for length in range(len(EVERYTHING)):
            self.assertEqual(told(EVERYTHING[:length], SMALL), [-5])

    def test_too_long(self):
        good = HEAD + [0] * 8
        self.assertEqual(told(good), [0] + data("rules demo\n"))
        self.assertEqual(text(data("x" * 16385), [], good), [-2])
        self.assertEqual(text(DEMO.table, data("x" * 65537), good), [-2])
        self.assertEqual(told([0] * 65537), [-2])
        self.assertEqual(text([], [0], [0] * 65537), [-2])

    def test_a_faulty_table_or_book(self):
        for table, book in (("", BOOK), ("x" * 16384, BOOK), (TABLE, "x" * 65536), (TABLE, BOOK + "show a on red\n")):
            for row in (HEAD + [0] * 8, [], [0] * 65536):
                self.assertEqual(text(data(table), data(book), row), [-8])


class Leaves(unittest.TestCase):
    def test_what_is_handed_in_and_what_is_answered(self):
        made = Made(FULL, 1)
        for table, book, row in ((FULL.table, FULL.book, made.code), (FULL.table, FULL.book, made.code[:-1]),
                                 (DEMO.table, [], HEAD + [0] * 8), ([], [], []), (DEMO.table, DEMO.book, []),
                                 (DEMO.table, [1], []), (DEMO.table, [], [0] * 65537)):
            check_call(self, text, [table, book, row], lambda: (told(EVERYTHING), told(EVERYTHING, SMALL)))


if __name__ == "__main__":
    unittest.main()
