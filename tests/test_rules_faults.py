"""Each kind of fault of rules with its place, in each way that the document names of having it."""

import unittest

from tests.samples import DECLARED, judged, marked

ON = DECLARED + "on coin\n"
NO_NAMES = ("A", "0a", "_a", "abcdefghijklm", "a-b", "aB", "7", "a%", "-", "!", "~")
NO_NUMBERS = ("-", "-0", "00", "01", "-01", "+1", "--1", "1-", "1a", "a", "1.0", "2147483648", "-2147483649",
              "4294967296", "99999999999", "9" * 5000, "-" + "9" * 5000)


class FaultCase(unittest.TestCase):
    def assert_fault(self, kind, text):
        """The fault is where the text has its mark."""
        rules, place = marked(text)
        self.assertEqual(judged(rules), [-6, kind, place], text[-200:])

    def assert_action_fault(self, kind, action):
        """The action is at fault behind do, and so it is behind a guard."""
        self.assert_fault(kind, ON + f"do {action}\n")
        self.assert_fault(kind, ON + f"do stop\nwhen = hits 1 do {action}\non coin\ndo stop\n")

    def assert_expression_fault(self, kind, expression):
        """The expression is at fault wherever one stands."""
        self.assert_fault(kind, ON + f"when {expression} do stop\n")
        for before in ("score ", "set hits ", "run saver "):
            self.assert_action_fault(kind, before + expression)
        for before in ("! ", "+ 1 ", "< hits ! "):
            self.assert_action_fault(kind, "score " + before + expression)
            self.assert_fault(kind, ON + f"when {before}{expression} do stop\n")


class Lines(FaultCase):
    def test_1_not_ended(self):
        self.assert_fault(1, "^")
        self.assert_fault(1, "rules demo^")
        self.assert_fault(1, "rules demo\n ^")
        self.assert_fault(1, DECLARED + "what \x00  ^")
        self.assert_fault(1, ON + "do^")
        self.assert_fault(1, ON + "do stop^")

    def test_2_bytes(self):
        for byte in ("\x00", "\x09", "\x0b", "\x0d", "\x1f", "\x7f", "\x80", "\xff"):
            self.assert_fault(2, f"^{byte}rules demo\n")
            self.assert_fault(2, f"rules de^{byte}mo\n")
            self.assert_fault(2, f"rules demo^{byte}\n")
            self.assert_fault(2, ON + f"do stop ^{byte}\n")

    def test_2_blanks(self):
        self.assert_fault(2, "^ \n")
        self.assert_fault(2, "^  \n")
        self.assert_fault(2, "^ rules demo\n")
        self.assert_fault(2, "rules ^ demo\n")
        self.assert_fault(2, "rules demo^ \n")
        self.assert_fault(2, "rules demo ^ \n")
        self.assert_fault(2, ON + "do score + 1 ^ 2\n")

    def test_3_first_words(self):
        self.assert_fault(3, "^\n")
        self.assert_fault(3, "^rule demo\n")
        for line in ("var a 1", "mine a 1", "timer a", "signal a", "mode a", "on coin", "do stop", "when 1 do stop"):
            self.assert_fault(3, f"^{line}\n")
            self.assert_fault(3, f"^{line}\nrules demo\n")
        self.assert_fault(3, "rules demo\n^rules demo\n")
        self.assert_fault(3, "rules demo\n^\n")
        self.assert_fault(3, "rules demo\n^variable a 1\n")
        self.assert_fault(3, "rules demo\n^Var a 1\n")
        self.assert_fault(3, "rules demo\n^score 1\n")
        self.assert_fault(3, ON + "do stop\n^\n")
        self.assert_fault(3, ON + "^\n")
        self.assert_fault(3, ON + "^stop\n")

    def test_3_sorts_that_cannot_come_any_more(self):
        lines = ("rules z\n", "var z 1\n", "mine z 1\n", "timer z\n", "signal z\n", "mode z\n", "on coin\ndo stop\n")
        for late in range(1, len(lines)):
            for early in range(late):
                self.assert_fault(3, "rules demo\n" + lines[late] + "^" + lines[early])
        self.assert_fault(3, "rules demo\non coin\n^var z 1\n")

    def test_3_handlers_and_actions_out_of_turn(self):
        self.assert_fault(3, ON + "^on coin\ndo stop\n")
        self.assert_fault(3, ON + "^on\n")
        self.assert_fault(3, ON + "do stop\non coin\n^on coin\n")
        for action in ("do stop", "when 1 do stop", "do", "when"):
            self.assert_fault(3, f"rules demo\n^{action}\n")
            self.assert_fault(3, DECLARED + f"^{action}\n")
            self.assert_fault(3, ON + "do stop\n" * 32 + f"^{action}\n")

    def test_3_a_257th_handler_whose_handler_before_has_no_action(self):
        self.assert_fault(3, "rules demo\n" + "on coin\ndo stop\n" * 255 + "on coin\n^on coin\n")

    def test_9_the_last_handler_has_no_action(self):
        self.assert_fault(9, ON + "^")
        self.assert_fault(9, "rules demo\non coin\n^")
        self.assert_fault(9, ON + "do stop\non closed bumper in multi\n^")


class Declared(FaultCase):
    def test_3_words(self):
        for line in ("rules^", "rules demo ^1", "rules demo ^demo"):
            self.assert_fault(3, line + "\n")
        for line in ("var^", "var a^", "var a 1 ^1", "mine^", "mine a^", "mine a 1 ^x", "timer^", "timer a ^1",
                     "signal^", "signal a ^b", "mode^", "mode a ^in"):
            self.assert_fault(3, "rules demo\n" + line + "\n")

    def test_4_names(self):
        for name in NO_NAMES:
            self.assert_fault(4, f"rules ^{name}\n")
            self.assert_fault(4, f"rules demo\nvar ^{name} 1\n")
            self.assert_fault(4, f"rules demo\nmine ^{name} 1\n")
            for sort in ("timer", "signal", "mode"):
                self.assert_fault(4, f"rules demo\n{sort} ^{name}\n")

    def test_4_the_three_words(self):
        for name in ("left", "in", "closed"):
            self.assert_fault(4, f"rules demo\nvar ^{name} 1\n")
            self.assert_fault(4, f"rules demo\nmine ^{name} 1\n")

    def test_4_numbers(self):
        for number in NO_NUMBERS:
            self.assert_fault(4, f"rules demo\nvar a ^{number}\n")
            self.assert_fault(4, f"rules demo\nvar b 1\nmine a ^{number}\nvar\n")

    def test_numbers_within_their_bounds(self):
        for number in ("0", "1", "-1", "9", "10", "2147483647", "-2147483648", "1000000000"):
            self.assertEqual(judged(f"rules demo\nvar a {number}\nmine b {number}\n"), [0])

    def test_5_new_names(self):
        self.assert_fault(5, "rules demo\nvar a 1\nvar ^a 2\n")
        self.assert_fault(5, "rules demo\nvar a 1\nmine ^a 2\n")
        self.assert_fault(5, "rules demo\nmine a 1\nmine b 1\nmine ^a 2\n")
        for sort in ("timer", "signal", "mode"):
            self.assert_fault(5, f"rules demo\n{sort} a\n{sort} b\n{sort} ^a\n")


class Events(FaultCase):
    def test_3_words(self):
        for line in ("on^", "on ^in multi", "on ^close bumper", "on ^score 1", "on ^Coin", "on ^1",
                     "on coin ^coin", "on coin ^multi", "on coin in^", "on coin in multi ^in", "on coin ^In multi",
                     "on closed^", "on opened^", "on ended^", "on gained^", "on parted^", "on stuck^", "on sent^",
                     "on closed bumper ^lane", "on closed in in^"):
            self.assert_fault(3, DECLARED + line + "\ndo stop\n")
        for event in ("start", "warning", "tilt", "ball", "lost", "back"):
            self.assert_fault(3, DECLARED + f"on {event} ^hits\n")

    def test_4_and_6_names(self):
        for event in ("closed", "opened", "ended", "gained", "parted", "stuck", "sent", "coin in"):
            for name in NO_NAMES:
                self.assert_fault(4, DECLARED + f"on {event} ^{name}\n")
            self.assert_fault(6, DECLARED + f"on {event} ^nowhere\n")

    def test_6_names_of_other_sorts(self):
        for line in ("closed ^red", "opened ^saver", "ended ^multi", "gained ^pop", "parted ^bumper", "stuck ^hello",
                     "sent ^saver", "coin in ^saver", "tilt in ^in", "sent jackpot in ^jackpot"):
            self.assert_fault(6, DECLARED + f"on {line}\ndo stop\n")


class Actions(FaultCase):
    def test_3_words(self):
        for line in ("do^", "when^", "do ^do stop", "do ^Score 1", "do ^coin", "do ^1", "when 1^", "when 1 ^stop",
                     "when 1 do^", "when 1 ^2 do stop", "when hits ^when hits do stop", "when 1 do ^do stop",
                     "when + 1 2 ^! do stop"):
            self.assert_fault(3, ON + line + "\n")

    def test_3_words_missing_or_too_many(self):
        for action in ("score^", "score 1 ^1", "score + 1 2 ^3", "set^", "set hits^", "set hits 1 ^do", "fire^",
                       "fire pop^", "fire pop 1 ^1", "hold^", "hold flip^", "hold flip 1 ^1", "release^",
                       "release pop ^1", "show^", "show hello^", "show hello 1 ^1", "hide^", "hide 1 ^1", "light^",
                       "light red ^red", "dark^", "dark red ^1", "begin^", "begin multi ^1", "finish^",
                       "finish multi ^1", "run^", "run saver^", "run saver 1 ^1", "halt^", "halt saver ^1", "send^",
                       "send lit ^1", "eject^", "eject trough ^1", "stop ^1", "stop ^stop"):
            self.assert_action_fault(3, action)

    def test_4_and_6_names(self):
        for word, behind in (("set", " 1"), ("fire", " 1"), ("hold", " 1"), ("release", ""), ("show", " 1"),
                             ("light", ""), ("dark", ""), ("begin", ""), ("finish", ""), ("run", " 1"),
                             ("halt", ""), ("send", ""), ("eject", "")):
            for name in NO_NAMES:
                self.assert_action_fault(4, f"{word} ^{name}{behind}")
            self.assert_action_fault(6, f"{word} ^nowhere{behind}")
            self.assert_action_fault(6, f"{word} ^demo{behind}")

    def test_6_names_of_other_sorts(self):
        for action in ("set ^saver 1", "set ^left 1", "set ^in 1", "set ^closed 1", "fire ^bumper 1", "hold ^red 1",
                       "release ^lane", "show ^red 1", "light ^hello", "dark ^pop", "begin ^saver", "finish ^lit",
                       "run ^hits 1", "halt ^multi", "send ^saver", "eject ^pop"):
            self.assert_action_fault(6, action)

    def test_4_times_and_levels(self):
        for number in ("0", "1024", "01", "-1", "-0", "+1", "hits", "1a", "-", "9" * 5000):
            for before in ("fire pop", "fire flip", "hold flip", "hold gate"):
                self.assert_action_fault(4, f"{before} ^{number}")
        for number in ("16", "00", "-1", "-0", "hits", "-", "9" * 5000):
            self.assert_action_fault(4, f"hide ^{number}")
            self.assert_action_fault(4, f"show bye ^{number}")

    def test_7_times_above_the_coils_most(self):
        self.assert_action_fault(7, "fire trough ^21")
        self.assert_action_fault(7, "fire trough ^1023")
        self.assert_action_fault(7, "fire pop ^31")
        self.assert_action_fault(7, "hold gate ^256")

    def test_7_a_coil_without_a_hold(self):
        self.assert_action_fault(7, "hold ^pop 1")
        self.assert_action_fault(7, "hold ^pop")
        self.assert_action_fault(7, "hold ^trough 21")
        self.assert_action_fault(7, "hold ^trough x")


class Expressions(FaultCase):
    def test_3_words_missing(self):
        for expression in ("^", "!^", "+^", "+ 1^", "- - 1 2^", "left^", "in^", "closed^", "* left saver^"):
            before = "" if expression == "^" else " "
            self.assert_fault(3, ON + f"when{before}{expression}\n")
            self.assert_fault(3, ON + f"do score{before}{expression}\n")
            self.assert_fault(3, ON + f"do set hits{before}{expression}\n")
            self.assert_fault(3, ON + f"do run saver{before}{expression}\n")

    def test_3_words_that_are_none(self):
        for word in ("A", "++", "--", "!!", "+1", "1a", "--1", "1-", "a-b", "_a", "abcdefghijklm", "1.0", "==",
                     ">", "%%", "(", "0x1", "-a", "-1a", "~", "?", "#"):
            self.assert_expression_fault(3, "^" + word)

    def test_4_numbers_that_are_none(self):
        for word in ("-0", "00", "01", "-01", "-00", "2147483648", "-2147483649", "9" * 5000, "-" + "9" * 5000):
            self.assert_expression_fault(4, "^" + word)

    def test_6_names_that_are_none(self):
        for word in ("nowhere", "saver", "multi", "bumper", "demo", "do", "score", "when", "opened", "abcdefghijkl"):
            self.assert_expression_fault(6, "^" + word)
        self.assert_fault(6, ON + "when ^do stop\n")
        self.assert_fault(6, ON + "when + 1 ^do stop\n")

    def test_4_and_6_names_behind_words(self):
        for before in ("left", "in", "closed"):
            for name in NO_NAMES:
                self.assert_expression_fault(4, f"{before} ^{name}")
            self.assert_expression_fault(6, f"{before} ^nowhere")
            self.assert_expression_fault(6, f"{before} ^hits")
        self.assert_expression_fault(6, "in ^in")
        self.assert_expression_fault(6, "left ^in")
        self.assert_expression_fault(6, "closed ^closed")

    def test_10_a_64th_part(self):
        for word in ("1", "-1", "hits", "bonus", "!", "-", "%", "left saver", "in multi", "closed lane",
                     "left nowhere", "in 5", "closed"):
            for before in ("! " * 63, "! " + "+ 1 " * 31, "- " * 63, "+ left saver " * 31 + "! "):
                self.assert_fault(10, ON + f"do score {before}^{word}\n")
                self.assert_fault(10, ON + f"when {before}^{word} do stop\n")
                self.assert_fault(10, ON + f"when 1 do run saver {before}^{word}\n")

    def test_a_64th_part_of_a_lesser_kind(self):
        before = "! " * 63
        for kind, word in ((3, "A"), (4, "-0"), (4, "2147483648"), (6, "nowhere"), (6, "do")):
            self.assert_fault(kind, ON + f"do score {before}^{word}\n")
        self.assert_fault(3, ON + f"do score {before[:-1]}^\n")

    def test_behind_63_parts(self):
        self.assert_fault(3, ON + f"do score {'! ' * 62}1 ^1\n")
        self.assert_fault(3, ON + f"when {'! ' * 62}1 ^1 do stop\n")


class TwoFaults(FaultCase):
    def test_in_one_text(self):
        self.assert_fault(3, "rules demo\n^vor a 1\n\x00\n")
        self.assert_fault(4, "rules ^A\nrules")
        self.assert_fault(5, "rules demo\nvar a 1\nvar ^a 1\n \n")
        self.assert_fault(6, ON + "do light ^x\non coin\n")
        self.assert_fault(2, "rules demo\nvar a 1^\x00\nvar a")
        self.assert_fault(3, ON + "^on x\n")

    def test_in_one_line(self):
        self.assert_fault(2, "rools Demo demo^ \n")
        self.assert_fault(2, "rules demo\nvar left x ^ y\n")
        self.assert_fault(1, "rules demo\nvar left  x^")
        self.assert_fault(4, "rules demo\nvar ^left x y\n")
        self.assert_fault(4, "rules demo\nvar a ^x y\n")
        self.assert_fault(6, ON + "do fire ^x 0 0\n")
        self.assert_fault(7, ON + "do hold ^pop 2000 0\n")
        self.assert_fault(7, ON + "do fire pop ^31 0\n")
        self.assert_fault(4, ON + "when ^01 do light x\n")
        self.assert_fault(6, DECLARED + "on closed ^x in y\n")

    def test_in_one_word(self):
        # A new name that is barred, and that its sort can't have either.
        self.assert_fault(4, "rules demo\nvar a 1\nmine ^in 1\n")
        # A T out of its bounds, and above the coil's most.
        self.assert_fault(4, ON + "do fire pop ^1024\n")
        # A handler too many, behind one without an action.
        self.assert_fault(3, "rules demo\n" + "on coin\ndo stop\n" * 255 + "on coin\n^on A\n")


if __name__ == "__main__":
    unittest.main()
