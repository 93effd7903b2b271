"""How many bytes the code has: -9 of judge and of code."""

import unittest

from tests.samples import coded, judged

MOST = 65536
BIG = "do score " + "+ 0 " * 31 + "0\n"
BIG_SIZE = 1 + 1 + 31 + 32 * 5
# Head, two vars, a mine, a timer, a signal and a mode.
HEAD = "rules demo\nvar v 0\nvar w 0\nmine m 0\ntimer t\nsignal s\nmode o\n"
HEAD_SIZE = 24 + 3 * 16 + 3 * 12

EXPRESSIONS = {"0": 5, "-5": 5, "2147483647": 5, "v": 2, "m": 2, "left t": 2, "in o": 2, "closed lane": 2,
               "! v": 3, "+ v w": 5, "- v w": 5, "* v 1": 8, "/ v w": 5, "% v w": 5, "< v w": 5, "= v w": 5,
               "& v w": 5, "| ! v left t": 6}

ACTIONS = {"score v": 3, "set m v": 4, "fire pop 1": 4, "hold flip 300": 4, "release pop": 2, "show hello 15": 3,
           "hide 0": 2, "light red": 2, "dark red": 2, "begin o": 2, "finish o": 2, "run t v": 4, "halt t": 2,
           "send s": 2, "eject trough": 2, "stop": 1}


def rules_of_size(size):
    """Right rules whose code has just this many bytes; their last handler may have one action more."""
    lines = [HEAD]
    rest = size - HEAD_SIZE
    actions = 31
    while rest > 0:
        if actions == 31:
            lines.append("on coin\n")
            rest -= 4
            actions = 0
        if rest > 300:
            lines.append(BIG)
            rest -= BIG_SIZE
        else:
            # An action of 4 to 66 bytes; what stays behind must be enough for a handler and an action.
            small = rest if rest <= 66 else 50
            lines.append("do score " + "! " * (small - 4) + "v\n")
            rest -= small
        actions += 1
    return "".join(lines)


class Size(unittest.TestCase):
    def assert_adds(self, lines, size):
        """These lines add so many bytes: then there are just as many as there may be, and one more."""
        full = rules_of_size(MOST - size) + lines
        over = rules_of_size(MOST + 1 - size) + lines
        self.assertLessEqual(len(over), 65536)
        self.assertEqual(judged(full), [0], lines)
        self.assertEqual(judged(over), [-9], lines)
        self.assertEqual(len(coded(full)), 1 + MOST, lines)
        self.assertEqual(coded(over), [-9], lines)

    def test_just_enough_and_one_more(self):
        self.assert_adds("", 0)
        self.assertEqual(judged(rules_of_size(MOST - 1)), [0])
        self.assertEqual(judged(rules_of_size(MOST + 2)), [-9])
        self.assertEqual(judged(rules_of_size(MOST + 20000)), [-9])
        self.assertEqual(coded(rules_of_size(MOST + 20000)), [-9])

    def test_handlers(self):
        self.assert_adds("on coin\ndo stop\n", 6)
        self.assert_adds("on closed lane in o\ndo stop\n", 6)

    def test_expressions(self):
        for expression, size in EXPRESSIONS.items():
            self.assert_adds(f"do score {expression}\n", 2 + size)
            self.assert_adds(f"when {expression} do stop\n", 2 + size)

    def test_actions(self):
        for action, size in ACTIONS.items():
            self.assert_adds(f"do {action}\n", 1 + size)
            self.assert_adds(f"when v do {action}\n", 1 + 2 + size)

    def test_declared(self):
        for line, size in (("var x 1\n", 16), ("mine x 1\n", 16), ("timer x\n", 12), ("signal x\n", 12),
                           ("mode x\n", 12)):
            sort = line.split()[0]
            for base, answer in ((MOST - size, [0]), (MOST + 1 - size, [-9])):
                rules = rules_of_size(base)
                place = rules.index("\n" + sort + " ") + 1
                rules = rules[:place] + line + rules[place:]
                self.assertEqual(judged(rules), answer, line)
                self.assertEqual(coded(rules)[:1], answer, line)

    def test_a_fault_comes_before(self):
        over = rules_of_size(MOST + 100)
        self.assertEqual(judged(over), [-9])
        self.assertEqual(judged(over + "do x\n"), [-6, 3, len(over) + 3])
        self.assertEqual(judged(over + "on coin\n"), [-6, 9, len(over) + 8])
        self.assertEqual(coded(over + "on coin\n"), [-6])

    def test_a_faulty_table_comes_before(self):
        self.assertEqual(judged(rules_of_size(MOST + 100), book="x"), [-8])
        self.assertEqual(coded(rules_of_size(MOST + 100), book="x"), [-8])


if __name__ == "__main__":
    unittest.main()
