"""Right rules: every sort of line, event, expression and action, as many as there may be."""

import unittest

from tests.samples import DECLARED, judged

EVENTS = ("closed bumper", "closed in", "opened trough_a", "ended saver", "ended left", "gained trough",
          "parted trough", "stuck trough", "coin", "start", "warning", "tilt", "ball", "lost", "back",
          "sent jackpot", "sent lit")

EXPRESSIONS = ("0", "7", "-1", "2147483647", "-2147483648", "hits", "low", "bonus", "best", "left saver",
               "left left", "in multi", "in wizard", "closed lane", "closed in", "! 0", "! ! hits", "+ 1 2",
               "- 1 -2", "- - 1 2 3", "* hits bonus", "/ hits 0", "% hits 10", "< 1 2", "= hits -5",
               "& in multi closed bumper", "| ! in multi left saver", "+ * 2 hits - left saver 5")

ACTIONS = ("set hits 1", "set best + best 1", "fire trough 1", "fire trough 20", "fire flip 1023", "hold flip 1",
           "hold flip 1023", "hold gate 255", "release pop", "release flip", "show hello 0", "show bye 15",
           "hide 0", "hide 15", "light red", "dark blue", "begin multi", "finish wizard", "run saver 100",
           "run left left left", "halt saver", "send lit", "eject trough", "stop")


def nested(parts):
    """An expression of so many parts, nested as deep."""
    return "! " * (parts - 1) + "1"


def wide(parts):
    """An expression of so many parts, an odd number, each operator with a number on its left."""
    return "+ 1 " * (parts // 2) + "1"


class Right(unittest.TestCase):
    def assert_right(self, rules):
        self.assertEqual(judged(rules), [0], rules)

    def test_the_first_line_alone(self):
        self.assert_right("rules demo\n")
        for name in ("a", "abcdefghijkl", "rules", "a_0"):
            self.assert_right(f"rules {name}\n")

    def test_declared(self):
        self.assert_right(DECLARED)
        for line in ("var a 0", "mine a 0", "timer a", "signal a", "mode a", "on coin\ndo stop"):
            self.assert_right("rules demo\n" + line + "\n")

    def test_events(self):
        for event in EVENTS:
            self.assert_right(DECLARED + f"on {event}\ndo stop\n")
            self.assert_right(DECLARED + f"on {event} in wizard\ndo stop\n")
        self.assert_right(DECLARED + "".join(f"on {event}\ndo stop\n" for event in EVENTS))

    def test_expressions(self):
        for expression in EXPRESSIONS:
            self.assert_right(DECLARED + f"on coin\ndo score {expression}\n")
            self.assert_right(DECLARED + f"on coin\ndo set hits {expression}\n")
            self.assert_right(DECLARED + f"on coin\ndo run saver {expression}\n")
            self.assert_right(DECLARED + f"on coin\nwhen {expression} do stop\n")
            self.assert_right(DECLARED + f"on coin\nwhen {expression} do score {expression}\n")

    def test_actions(self):
        for action in ACTIONS:
            self.assert_right(DECLARED + f"on coin\ndo {action}\n")
            self.assert_right(DECLARED + f"on coin\nwhen hits do {action}\n")

    def test_words_as_names(self):
        self.assert_right(
            "rules on\nvar do 1\nvar when 1\nmine score 1\ntimer on\nsignal in\nmode in\n"
            "on sent in in in\nwhen do do score score\nwhen when do set do in in\nwhen left on do stop\n")

    def test_sorts_may_share_names(self):
        self.assert_right("rules a\nvar a 1\ntimer a\nsignal a\nmode a\non sent a in a\nwhen a do run a left a\n")
        self.assert_right("rules a\ntimer left\ntimer in\nsignal closed\nmode left\non ended in in left\ndo stop\n")

    def test_63_parts(self):
        for expression in (nested(63), wide(63), "+ 1 " * 30 + "! ! 1"):
            self.assert_right(DECLARED + f"on coin\ndo score {expression}\n")
            self.assert_right(DECLARED + f"on coin\nwhen {expression} do set hits {expression}\n")
        part = "left saver"
        self.assert_right(DECLARED + f"on coin\ndo score {('+ ' + part + ' ') * 31 + part}\n")


class Most(unittest.TestCase):
    """As many of a sort as there may be: right; one more is at fault with its first word."""

    def check(self, head, lines, behind=""):
        most = head + "".join(lines[:-1])
        self.assertEqual(judged(most + behind), [0])
        self.assertEqual(judged(most + lines[-1] + behind), [-6, 3, len(most)])

    def test_64_vars(self):
        lines = [f"var v{k} {k}\n" for k in range(65)]
        self.check("rules demo\n", lines)
        self.check("rules demo\n", lines, "mine m 1\non coin\ndo score v63\n")

    def test_32_mines(self):
        lines = [f"mine m{k} {k}\n" for k in range(33)]
        self.check("rules demo\n", lines)
        self.check("rules demo\n" + "".join(f"var v{k} 0\n" for k in range(64)), lines, "on coin\ndo score m31\n")

    def test_16_timers(self):
        self.check("rules demo\n", [f"timer t{k}\n" for k in range(17)], "on ended t15\ndo stop\n")

    def test_64_signals(self):
        self.check("rules demo\n", [f"signal s{k}\n" for k in range(65)], "on sent s63\ndo stop\n")

    def test_15_modes(self):
        self.check("rules demo\n", [f"mode m{k}\n" for k in range(16)], "on coin in m14\ndo stop\n")

    def test_256_handlers(self):
        self.check("rules demo\n", ["on coin\ndo stop\n"] * 257)

    def test_32_actions(self):
        self.check("rules demo\non coin\n", ["do stop\n"] * 33)
        self.check("rules demo\non coin\n", ["when 1 do stop\n"] * 33, "on coin\ndo stop\n")
        self.check("rules demo\non coin\n" + "do stop\n" * 32 + "on coin\n", ["do stop\n"] * 33)

    def test_one_too_many_is_told_before_its_other_words(self):
        for sort, behind, most in (("var", " 0", 64), ("mine", " 0", 32), ("timer", "", 16), ("signal", "", 64),
                                   ("mode", "", 15)):
            head = "rules demo\n" + "".join(f"{sort} v{k}{behind}\n" for k in range(most))
            self.assertEqual(judged(head), [0])
            self.assertEqual(judged(head + f"{sort} V x\n"), [-6, 3, len(head)])


if __name__ == "__main__":
    unittest.main()
