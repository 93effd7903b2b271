"""The code of rules, byte by byte as the document tells it, and what the call refuses."""

import unittest

from tablerules.rules import code
from tests.leaving import check_call
from tests.made import Made
from tests.samples import BOOK, DECLARED, TABLE, coded, data
from tests.worlds import BARE, DEMO, FULL


def name(text):
    return data(text) + [0] * (12 - len(text))


class Head(unittest.TestCase):
    def test_nothing_but_a_name(self):
        self.assertEqual(coded("rules demo\n"),
                         [0, 84, 82, 1, 0, 100, 101, 109, 111, 0, 0, 0, 0, 0, 0, 0, 0, 0, 0, 0, 0, 0, 0, 0, 0])

    def test_names_of_1_and_of_12_bytes(self):
        self.assertEqual(coded("rules a\n"), [0, 84, 82, 1, 0, 97] + [0] * 11 + [0] * 8)
        self.assertEqual(coded("rules z9_bcdefghij\n"),
                         [0, 84, 82, 1, 0, 122, 57, 95, 98, 99, 100, 101, 102, 103, 104, 105, 106] + [0] * 8)
        for line, row in (("var z 1", [1, 0, 0, 0, 0]), ("mine z 1", [0, 1, 0, 0, 0])):
            self.assertEqual(coded(f"rules a\n{line}\n"),
                             [0, 84, 82, 1, 0] + name("a") + row + [0, 0, 0, 122] + [0] * 11 + [1, 0, 0, 0])
            self.assertEqual(coded(f"rules a\n{line.replace('z', 'abcdefghijkl')}\n"),
                             [0, 84, 82, 1, 0] + name("a") + row + [0, 0, 0] + list(range(97, 109)) + [1, 0, 0, 0])
        for sort, row in (("timer", [0, 0, 1, 0, 0]), ("signal", [0, 0, 0, 1, 0]), ("mode", [0, 0, 0, 0, 1])):
            self.assertEqual(coded(f"rules a\n{sort} z\n"),
                             [0, 84, 82, 1, 0] + name("a") + row + [0, 0, 0, 122] + [0] * 11)
            self.assertEqual(coded(f"rules a\n{sort} abcdefghijkl\n"),
                             [0, 84, 82, 1, 0] + name("a") + row + [0, 0, 0] + list(range(97, 109)))

    def test_each_sort_in_the_texts_order(self):
        self.assertEqual(
            coded(DECLARED),
            [0, 84, 82, 1, 0] + name("demo") + [3, 2, 2, 2, 2, 0, 0, 0]
            + name("hits") + [0, 0, 0, 0] + name("low") + [0, 0, 0, 128] + name("high") + [255, 255, 255, 127]
            + name("bonus") + [7, 0, 0, 0] + name("best") + [255, 255, 255, 255]
            + name("saver") + name("left") + name("jackpot") + name("lit") + name("multi") + name("wizard"))

    def test_numbers(self):
        rows = {"0": [0, 0, 0, 0], "1": [1, 0, 0, 0], "255": [255, 0, 0, 0], "256": [0, 1, 0, 0],
                "65536": [0, 0, 1, 0], "16777216": [0, 0, 0, 1], "305419896": [0x78, 0x56, 0x34, 0x12],
                "2147483647": [255, 255, 255, 127], "-1": [255, 255, 255, 255], "-256": [0, 255, 255, 255],
                "-257": [255, 254, 255, 255], "-2147483648": [0, 0, 0, 128], "-2147483647": [1, 0, 0, 128]}
        for number, row in rows.items():
            self.assertEqual(coded(f"rules a\nvar v {number}\n")[-4:], row)
            self.assertEqual(coded(f"rules a\nmine v {number}\n")[-4:], row)
            self.assertEqual(coded(f"rules a\non coin\ndo score {number}\n")[-7:], [0, 0, 0] + row)

    def test_how_many_of_each(self):
        sorts = {"var": 64, "mine": 32, "timer": 16, "signal": 64, "mode": 15}
        for place, (sort, most) in enumerate(sorts.items()):
            behind = " 0" if place < 2 else ""
            for count in (0, 1, most):
                lines = "".join(f"{sort} x{k}{behind}\n" for k in range(count))
                row = [0] * 8
                row[place] = count
                self.assertEqual(coded("rules a\n" + lines)[17:25], row)

    def test_how_many_handlers(self):
        for count, row in ((0, [0, 0]), (1, [1, 0]), (255, [255, 0]), (256, [0, 1])):
            answer = coded("rules a\n" + "on coin\ndo stop\n" * count)
            self.assertEqual(answer[17:25], [0, 0, 0, 0, 0, 0] + row)
            self.assertEqual(answer[25:], [168, 0, 1, 0, 0, 15] * count)

    def test_how_many_actions(self):
        for count in (1, 2, 32):
            self.assertEqual(coded("rules a\non tilt\n" + "do stop\n" * count)[25:], [171, 0, count, 0] + [0, 15] * count)


class Handlers(unittest.TestCase):
    def handlers(self, lines):
        """The bytes behind those of what is declared."""
        answer = coded(DECLARED + lines)
        self.assertEqual(answer[0], 0)
        return answer[len(coded(DECLARED)):]

    def test_events(self):
        numbers = {"closed trough_a": 0, "closed bumper": 10, "closed in": 63, "opened trough_a": 64,
                   "opened lane": 75, "opened in": 127, "ended saver": 128, "ended left": 129, "gained trough": 144,
                   "parted trough": 152, "stuck trough": 160, "coin": 168, "start": 169, "warning": 170,
                   "tilt": 171, "ball": 172, "lost": 173, "back": 174, "sent jackpot": 192, "sent lit": 193}
        for event, number in numbers.items():
            self.assertEqual(self.handlers(f"on {event}\ndo stop\n"), [number, 0, 1, 0, 0, 15])
            self.assertEqual(self.handlers(f"on {event} in multi\ndo stop\n"), [number, 1, 1, 0, 0, 15])
            self.assertEqual(self.handlers(f"on {event} in wizard\ndo stop\n"), [number, 2, 1, 0, 0, 15])

    def test_actions(self):
        rows = {"score 1": [0, 0, 1, 0, 0, 0], "set hits 0": [1, 0, 0, 0, 0, 0, 0], "set low high": [1, 1, 1, 2],
                "set best bonus": [1, 65, 1, 64], "fire pop 30": [2, 1, 30, 0], "fire flip 256": [2, 7, 0, 1],
                "fire trough 1": [2, 0, 1, 0], "hold flip 1023": [3, 7, 255, 3], "hold gate 255": [3, 31, 255, 0],
                "release gate": [4, 31], "release pop": [4, 1], "show hello 0": [5, 0, 0], "show bye 15": [5, 1, 15],
                "hide 0": [6, 0], "hide 15": [6, 15], "light blue": [7, 63], "dark green": [8, 5],
                "begin wizard": [9, 1], "finish multi": [10, 0], "run left hits": [11, 1, 1, 0],
                "halt saver": [12, 0], "send lit": [13, 1], "eject trough": [14, 0], "stop": [15]}
        for action, row in rows.items():
            self.assertEqual(self.handlers(f"on coin\ndo {action}\n"), [168, 0, 1, 0, 0] + row)
            self.assertEqual(self.handlers(f"on coin\ndo stop\nwhen hits do {action}\n"),
                             [168, 0, 2, 0, 0, 15, 1, 1, 0] + row)

    def test_expressions(self):
        rows = {"-2": [0, 254, 255, 255, 255], "best": [1, 65], "hits": [1, 0], "left saver": [2, 0],
                "left left": [2, 1], "in multi": [3, 0], "in wizard": [3, 1], "closed in": [4, 63],
                "closed bumper": [4, 10], "! hits": [5, 1, 0], "! ! in multi": [5, 5, 3, 0],
                "- - hits low high": [7, 7, 1, 0, 1, 1, 1, 2], "- hits - low high": [7, 1, 0, 7, 1, 1, 1, 2]}
        for number, sign in enumerate("+-*/%<=&|"):
            rows[f"{sign} low best"] = [6 + number, 1, 1, 1, 65]
            rows[f"{sign} -1 ! 1"] = [6 + number, 0, 255, 255, 255, 255, 5, 0, 1, 0, 0, 0]
        for expression, row in rows.items():
            self.assertEqual(self.handlers(f"on coin\ndo score {expression}\n"), [168, 0, 1, 0, 0, 0] + row)
            self.assertEqual(self.handlers(f"on coin\ndo set low {expression}\n"), [168, 0, 1, 0, 0, 1, 1] + row)
            self.assertEqual(self.handlers(f"on coin\ndo run left {expression}\n"), [168, 0, 1, 0, 0, 11, 1] + row)
            self.assertEqual(self.handlers(f"on coin\nwhen {expression} do stop\n"), [168, 0, 1, 0, 1] + row + [15])

    def test_63_parts(self):
        self.assertEqual(self.handlers("on coin\ndo score " + "! " * 62 + "hits\n"),
                         [168, 0, 1, 0, 0, 0] + [5] * 62 + [1, 0])
        self.assertEqual(self.handlers("on coin\nwhen " + "% " * 31 + "hits " * 32 + "do stop\n"),
                         [168, 0, 1, 0, 1] + [10] * 31 + [1, 0] * 32 + [15])

    def test_a_whole_text(self):
        self.assertEqual(
            coded("rules whole\nvar v -5\nmine m 300\ntimer t\nsignal s\nmode o\n"
                  "on closed lane in o\nwhen < v 3 do set m + m left t\ndo fire flip 1000\n"
                  "on sent s\ndo begin o\nwhen | in o ! closed in do show bye 4\ndo send s\n"),
            [0, 84, 82, 1, 0] + name("whole") + [1, 1, 1, 1, 1, 0, 2, 0]
            + name("v") + [251, 255, 255, 255] + name("m") + [44, 1, 0, 0] + name("t") + name("s") + name("o")
            + [11, 1, 2, 0] + [1, 11, 1, 0, 0, 3, 0, 0, 0, 1, 64, 6, 1, 64, 2, 0] + [0, 2, 7, 232, 3]
            + [192, 0, 3, 0] + [0, 9, 0] + [1, 14, 3, 0, 5, 4, 63, 5, 1, 4] + [0, 13, 0])


class Numbers(unittest.TestCase):
    """Of everything there is: its number by the text's order, or its place."""

    def last_bytes(self, lines, count, head="rules a\n"):
        answer = code(FULL.table, FULL.book, data(head + lines))
        self.assertEqual(answer[0], 0)
        return answer[-count:]

    def test_switches_coils_and_lamps_by_their_places(self):
        for switch, place in FULL.switches.items():
            self.assertEqual(self.last_bytes(f"on closed {switch}\ndo stop\n", 6), [place, 0, 1, 0, 0, 15])
            self.assertEqual(self.last_bytes(f"on opened {switch}\ndo stop\n", 6), [64 + place, 0, 1, 0, 0, 15])
            self.assertEqual(self.last_bytes(f"on coin\ndo score closed {switch}\n", 4), [0, 0, 4, place])
        for coil, (place, most, held) in FULL.coils.items():
            self.assertEqual(self.last_bytes(f"on coin\ndo release {coil}\n", 3), [0, 4, place])
            self.assertEqual(self.last_bytes(f"on coin\ndo fire {coil} {most}\n", 5),
                             [0, 2, place, most % 256, most // 256])
            if held:
                self.assertEqual(self.last_bytes(f"on coin\ndo hold {coil} 1\n", 5), [0, 3, place, 1, 0])
        for lamp, place in FULL.lamps.items():
            self.assertEqual(self.last_bytes(f"on coin\ndo light {lamp}\n", 3), [0, 7, place])
            self.assertEqual(self.last_bytes(f"on coin\ndo dark {lamp}\n", 3), [0, 8, place])

    def test_devices_and_shows_by_the_texts_order(self):
        for number, device in enumerate(FULL.devices):
            self.assertEqual(self.last_bytes(f"on coin\ndo eject {device}\n", 3), [0, 14, number])
            for event, lowest in (("gained", 144), ("parted", 152), ("stuck", 160)):
                self.assertEqual(self.last_bytes(f"on {event} {device}\ndo stop\n", 6),
                                 [lowest + number, 0, 1, 0, 0, 15])
        for number, show in enumerate(FULL.shows):
            self.assertEqual(self.last_bytes(f"on coin\ndo show {show} 9\n", 4), [0, 5, number, 9])

    def test_what_is_declared_by_the_texts_order(self):
        counts = {"var": 64, "mine": 32, "timer": 16, "signal": 64, "mode": 15}
        head = "rules a\n" + "".join(
            f"{sort} {sort}{99 - k}{' 0' if sort in ('var', 'mine') else ''}\n"
            for sort, count in counts.items() for k in range(count))
        for sort, first in (("var", 0), ("mine", 64)):
            for number in range(counts[sort]):
                name_of = f"{sort}{99 - number}"
                self.assertEqual(self.last_bytes(f"on coin\ndo set {name_of} {name_of}\n", 5, head),
                                 [0, 1, first + number, 1, first + number])
        for k in range(16):
            self.assertEqual(self.last_bytes(f"on ended timer{99 - k}\ndo stop\n", 6, head), [128 + k, 0, 1, 0, 0, 15])
            self.assertEqual(self.last_bytes(f"on coin\ndo halt timer{99 - k}\n", 3, head), [0, 12, k])
            self.assertEqual(self.last_bytes(f"on coin\ndo run timer{99 - k} left timer{99 - k}\n", 5, head),
                             [0, 11, k, 2, k])
        for k in range(64):
            self.assertEqual(self.last_bytes(f"on sent signal{99 - k}\ndo stop\n", 6, head), [192 + k, 0, 1, 0, 0, 15])
            self.assertEqual(self.last_bytes(f"on coin\ndo send signal{99 - k}\n", 3, head), [0, 13, k])
        for k in range(15):
            self.assertEqual(self.last_bytes(f"on coin in mode{99 - k}\ndo stop\n", 6, head), [168, k + 1, 1, 0, 0, 15])
            self.assertEqual(self.last_bytes(f"on coin\ndo begin mode{99 - k}\n", 3, head), [0, 9, k])
            self.assertEqual(self.last_bytes(f"on coin\ndo finish mode{99 - k}\n", 3, head), [0, 10, k])
            self.assertEqual(self.last_bytes(f"on coin\ndo score in mode{99 - k}\n", 4, head), [0, 0, 3, k])

    def test_a_mines_number_does_not_hang_on_how_many_vars_there_are(self):
        for count in (0, 1, 63, 64):
            head = "rules a\n" + "".join(f"var v{k} 0\n" for k in range(count)) + "mine m 0\nmine n 0\n"
            self.assertEqual(self.last_bytes("on coin\ndo set n m\n", 5, head), [0, 1, 65, 1, 64])


class MadeUp(unittest.TestCase):
    def test_rules_made_up_at_random(self):
        for world in (BARE, DEMO, FULL):
            for seed in range(60):
                made = Made(world, seed, handlers=seed % 7)
                self.assertEqual(code(world.table, world.book, made.text), [0] + made.code, made.lines)


class Refused(unittest.TestCase):
    RIGHT = DECLARED + "on coin\ndo stop\n"

    def test_too_long(self):
        self.assertEqual(coded(self.RIGHT, table=TABLE + "x" * 16384), [-2])
        self.assertEqual(coded(self.RIGHT, table="x" * 16384), [-8])
        self.assertEqual(coded(self.RIGHT, table="x" * 16385), [-2])
        self.assertEqual(coded(self.RIGHT, book="x" * 65536), [-8])
        self.assertEqual(coded(self.RIGHT, book="x" * 65537), [-2])
        self.assertEqual(coded("x" * 65536), [-6])
        self.assertEqual(coded("x" * 65537), [-2])
        self.assertEqual(coded("x" * 66000, table="", book="x"), [-2])

    def test_a_faulty_table_or_book(self):
        for table, book in (("", BOOK), (TABLE + "kick\n", BOOK), (TABLE, "x"), (TABLE, BOOK + "show a on red\n"),
                            (BOOK, TABLE)):
            self.assertEqual(coded(self.RIGHT, table=table, book=book), [-8])
            self.assertEqual(coded("", table=table, book=book), [-8])

    def test_a_fault_is_that_number_alone(self):
        for rules in ("", "rules demo", "rules  demo\n", "rule demo\n", "rules Demo\n", "rules a\nmode a\nmode a\n",
                      "rules a\non ended t\ndo stop\n", "rules a\non coin\ndo fire pop 31\n", "rules a\non coin\n",
                      "rules a\non coin\ndo score " + "! " * 63 + "1\n", "\x00", "\n", "\xff\n"):
            self.assertEqual(coded(rules), [-6])

    def test_a_book_of_no_byte(self):
        self.assertEqual(coded("rules a\non coin\ndo show bye 1\n", book=""), [-6])
        self.assertEqual(coded("rules a\non coin\ndo hide 1\n", book="")[-3:], [0, 6, 1])


class Leaves(unittest.TestCase):
    def test_what_is_handed_in_and_what_is_answered(self):
        for texts in ((TABLE, BOOK, DECLARED + "on coin\ndo score 1\n"), (TABLE, BOOK, DECLARED + "on coin\n"),
                      (TABLE, "", "rules a\n"), (TABLE, "x", DECLARED), ("", "", ""), (TABLE, BOOK, "x" * 65537)):
            check_call(self, code, [data(text) for text in texts], lambda: coded(DECLARED + "on tilt\ndo stop\n"))


if __name__ == "__main__":
    unittest.main()
