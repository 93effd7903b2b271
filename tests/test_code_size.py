"""How many bytes the code has: judge's -9, and the bytes by which it is counted."""

import unittest

from tablerules.book import read_book
from tablerules.coding import rules_code
from tablerules.reader import read_rules
from tablerules.table import read_table
from tests.samples import BOOK, DECLARED, TABLE, data, judged

MOST = 65536
BIG = "do score " + "+ 0 " * 31 + "0\n"
BIG_SIZE = 1 + 1 + 31 + 32 * 5
# Head, two vars, a mine, a timer, a signal and a mode.
HEAD = "rules demo\nvar v 0\nvar w 0\nmine m 0\ntimer t\nsignal s\nmode o\n"
HEAD_SIZE = 24 + 3 * 16 + 3 * 12

EXPRESSIONS = {"0": 5, "-5": 5, "2147483647": 5, "v": 2, "m": 2, "left t": 2, "in o": 2, "closed lane": 2,
               "! v": 3, "+ v w": 5, "- v w": 5, "* v 1": 8, "/ v w": 5, "% v w": 5, "< v w": 5, "= v w": 5,
               "& v w": 5, "| ! v left t": 6}

ACTIONS = {"score v": 3, "set m v": 4, "fire pop 1": 4, "hold flip 300": 4, "release pop": 2, "show hello 15": 3,
           "hide 0": 2, "light red": 2, "dark red": 2, "begin o": 2, "finish o": 2, "run t v": 4, "halt t": 2,
           "send s": 2, "eject trough": 2, "stop": 1}


def rules_of_size(size):
    """Right rules whose code has just this many bytes; their last handler may have one action more."""
    lines = [HEAD]
    rest = size - HEAD_SIZE
    actions = 31
    while rest > 0:
        if actions == 31:
            lines.append("on coin\n")
            rest -= 4
            actions = 0
        if rest > 300:
            lines.append(BIG)
            rest -= BIG_SIZE
        else:
            # An action of 4 to 66 bytes; what stays behind must be enough for a handler and an action.
            small = rest if rest <= 66 else 50
            lines.append("do score " + "! " * (small - 4) + "v\n")
            rest -= small
        actions += 1
    return "".join(lines)


class Size(unittest.TestCase):
    def assert_adds(self, lines, size):
        """These lines add so many bytes: then there are just as many as there may be, and one more."""
        full = rules_of_size(MOST - size) + lines
        over = rules_of_size(MOST + 1 - size) + lines
        self.assertLessEqual(len(over), 65536)
        self.assertEqual(judged(full), [0], lines)
        self.assertEqual(judged(over), [-9], lines)

    def test_just_enough_and_one_more(self):
        self.assert_adds("", 0)
        self.assertEqual(judged(rules_of_size(MOST - 1)), [0])
        self.assertEqual(judged(rules_of_size(MOST + 2)), [-9])
        self.assertEqual(judged(rules_of_size(MOST + 20000)), [-9])

    def test_handlers(self):
        self.assert_adds("on coin\ndo stop\n", 6)
        self.assert_adds("on closed lane in o\ndo stop\n", 6)

    def test_expressions(self):
        for expression, size in EXPRESSIONS.items():
            self.assert_adds(f"do score {expression}\n", 2 + size)
            self.assert_adds(f"when {expression} do stop\n", 2 + size)

    def test_actions(self):
        for action, size in ACTIONS.items():
            self.assert_adds(f"do {action}\n", 1 + size)
            self.assert_adds(f"when v do {action}\n", 1 + 2 + size)

    def test_declared(self):
        for line, size in (("var x 1\n", 16), ("mine x 1\n", 16), ("timer x\n", 12), ("signal x\n", 12),
                           ("mode x\n", 12)):
            sort = line.split()[0]
            for base, answer in ((MOST - size, [0]), (MOST + 1 - size, [-9])):
                rules = rules_of_size(base)
                place = rules.index("\n" + sort + " ") + 1
                self.assertEqual(judged(rules[:place] + line + rules[place:]), answer, line)

    def test_a_fault_comes_before(self):
        over = rules_of_size(MOST + 100)
        self.assertEqual(judged(over), [-9])
        self.assertEqual(judged(over + "do x\n"), [-6, 3, len(over) + 3])
        self.assertEqual(judged(over + "on coin\n"), [-6, 9, len(over) + 8])

    def test_a_faulty_table_comes_before(self):
        self.assertEqual(judged(rules_of_size(MOST + 100), book="x"), [-8])


class Bytes(unittest.TestCase):
    """The bytes that are counted are those that the document tells."""

    def code(self, rules):
        table = read_table(data(TABLE))
        shows = read_book(table.lamps, data(BOOK))
        return rules_code(read_rules(table, shows, data(rules)))

    def test_head_and_declared(self):
        def name(text):
            return data(text) + [0] * (12 - len(text))

        self.assertEqual(self.code("rules demo\n"), [84, 82, 1, 0] + name("demo") + [0] * 8)
        self.assertEqual(
            self.code(DECLARED),
            [84, 82, 1, 0] + name("demo") + [3, 2, 2, 2, 2, 0, 0, 0]
            + name("hits") + [0, 0, 0, 0] + name("low") + [0, 0, 0, 128] + name("high") + [255, 255, 255, 127]
            + name("bonus") + [7, 0, 0, 0] + name("best") + [255, 255, 255, 255]
            + name("saver") + name("left") + name("jackpot") + name("lit") + name("multi") + name("wizard"))

    def handlers(self, lines):
        return self.code(DECLARED + lines)[len(self.code(DECLARED)):]

    def test_events(self):
        numbers = {"closed bumper": 10, "opened in": 127, "ended left": 129, "gained trough": 144,
                   "parted trough": 152, "stuck trough": 160, "coin": 168, "start": 169, "warning": 170,
                   "tilt": 171, "ball": 172, "lost": 173, "back": 174, "sent lit": 193}
        for event, number in numbers.items():
            self.assertEqual(self.handlers(f"on {event}\ndo stop\n"), [number, 0, 1, 0, 0, 15])
            self.assertEqual(self.handlers(f"on {event} in wizard\ndo stop\n"), [number, 2, 1, 0, 0, 15])
        many = "rules demo\n" + "on coin\ndo stop\n" * 256
        self.assertEqual(self.code(many)[22:24], [0, 1])

    def test_actions(self):
        rows = {"score 1": [0, 0, 1, 0, 0, 0], "set low high": [1, 1, 1, 2], "set best bonus": [1, 65, 1, 64],
                "fire pop 30": [2, 1, 30, 0], "hold flip 1023": [3, 7, 255, 3], "release gate": [4, 31],
                "show bye 15": [5, 1, 15], "hide 3": [6, 3], "light blue": [7, 63], "dark green": [8, 5],
                "begin wizard": [9, 1], "finish multi": [10, 0], "run left hits": [11, 1, 1, 0],
                "halt saver": [12, 0], "send lit": [13, 1], "eject trough": [14, 0], "stop": [15]}
        for action, row in rows.items():
            self.assertEqual(self.handlers(f"on coin\ndo {action}\n"), [168, 0, 1, 0, 0] + row)
            self.assertEqual(self.handlers(f"on coin\ndo stop\nwhen hits do {action}\n"),
                             [168, 0, 2, 0, 0, 15, 1, 1, 0] + row)

    def test_expressions(self):
        rows = {"-2": [0, 254, 255, 255, 255], "305419896": [0, 0x78, 0x56, 0x34, 0x12], "best": [1, 65],
                "left left": [2, 1], "in wizard": [3, 1], "closed in": [4, 63], "! hits": [5, 1, 0]}
        for number, sign in enumerate("+-*/%<=&|"):
            rows[f"{sign} low best"] = [6 + number, 1, 1, 1, 65]
        for expression, row in rows.items():
            self.assertEqual(self.handlers(f"on coin\ndo score {expression}\n"), [168, 0, 1, 0, 0, 0] + row)


if __name__ == "__main__":
    unittest.main()
