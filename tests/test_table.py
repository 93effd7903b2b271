"""Tables: right ones, and each fault; judge tells any of them by -8, the reader its kind and place."""

import unittest

from tablerules.fault import Fault
from tablerules.table import read_table
from tests.samples import TABLE, data, judged, marked

RULES = "rules demo\n"
HEAD = "table demo balls 1\n"
PARTS = """switch s0 at 0 close 1 open 1
switch s1 at 1 close 1 open 1
switch s2 at 2 close 1 open 1
switch s3 at 3 close 1 open 1
lamp l0 at 0
coil c0 at 0 most 10 rest 1
coil c1 at 1 most 10 rest 1
coil c2 at 2 most 300 rest 1
"""
DRAIN = "device d by c0 holds s0 drain\n"


class TableCase(unittest.TestCase):
    def assert_right(self, table):
        self.assertEqual(judged(RULES, table=table, book=""), [0], table)

    def assert_fault(self, kind, text):
        """The fault is where the text has its mark."""
        table, place = marked(text)
        self.assertEqual(judged(RULES, table=table, book=""), [-8], table)
        with self.assertRaises(Fault) as caught:
            read_table(data(table))
        self.assertEqual((caught.exception.kind, caught.exception.place), (kind, place), text)


class Right(TableCase):
    def test_ordinary(self):
        self.assert_right(TABLE)
        self.assert_right(HEAD + PARTS + DRAIN)

    def test_fewest_lines(self):
        self.assert_right(
            HEAD + "switch s at 0 close 1 open 1\ncoil c at 0 most 1 rest 1\ndevice d by c holds s drain\n")

    def test_bounds_of_numbers(self):
        for switch in ("at 63 close 1 open 31", "at 4 close 31 open 1", "at 4 close 1 open 1 turned"):
            self.assert_right(HEAD + PARTS.replace("lamp", f"switch z {switch}\nlamp") + DRAIN)
        for coil in ("at 31 most 1 rest 1", "at 3 most 1023 rest 4095", "at 3 most 1 rest 1 hold 1",
                     "at 3 most 1 rest 1 hold 15"):
            self.assert_right(HEAD + PARTS + f"coil z {coil}\n" + DRAIN)
        self.assert_right(HEAD + PARTS.replace("l0 at 0", "l0 at 63") + DRAIN)
        for kick in ("s1 c1 for 1", "s1 c1 for 10", "s1 c2 for 255", "s1 c2 for 255 till s2"):
            self.assert_right(HEAD + PARTS + DRAIN + f"kick {kick}\n")

    def test_all_places(self):
        switches = "".join(f"switch s{k} at {k} close 1 open 1\n" for k in range(64))
        lamps = "".join(f"lamp l{k} at {k}\n" for k in range(64))
        coils = "".join(f"coil c{k} at {k} most 9 rest 9\n" for k in range(32))
        devices = "".join(
            f"device d{k} by c{k} holds s{k} s{k + 8} s{k + 16} s{k + 24} s{k + 32} s{k + 40} s{k + 48} drain\n"
            for k in range(8))
        kicks = "".join(f"kick s{56 + k} c{8 + k} for 9 till s{k}\n" for k in range(8))
        self.assert_right("table full balls 8\n" + switches + lamps + coils + devices + kicks)

    def test_eight_switches_in_a_device(self):
        switches = "".join(f"switch s{k} at {k} close 1 open 1\n" for k in range(8))
        held = " ".join(f"s{k}" for k in range(8))
        coil = "coil c at 0 most 1 rest 1\n"
        self.assert_right(f"table t balls 8\n{switches}{coil}device d by c holds {held} drain\n")

    def test_names_may_be_shared_by_sorts(self):
        self.assert_right(
            "table a balls 1\nswitch a at 0 close 1 open 1\nswitch loop at 1 close 1 open 1\nlamp a at 0\n"
            "lamp drain at 1\ncoil a at 0 most 1 rest 1\ncoil drain at 1 most 1 rest 1\n"
            "coil loop at 2 most 1 rest 1\ndevice a by a holds a drain\ndevice drain by drain holds loop\n")

    def test_names(self):
        for name in ("a", "z", "abcdefghijkl", "a_9", "z0123456789_", "table", "at"):
            self.assert_right(f"table {name} balls 1\n" + PARTS + DRAIN)

    def test_drains_hold_together(self):
        self.assert_right(
            "table t balls 2\n" + PARTS + "device d by c0 holds s0 drain\ndevice e by c1 holds s1 drain\n")
        self.assert_right("table t balls 1\n" + PARTS + "device d by c0 holds s0 s1 drain\ndevice e by c1 holds s2\n")

    def test_a_kicks_second_switch(self):
        self.assert_right(HEAD + PARTS + DRAIN + "kick s1 c1 for 1 till s0\n")
        self.assert_right(HEAD + PARTS + DRAIN + "kick s1 c1 for 1 till s2\nkick s2 c2 for 1 till s1\n")


class Faults(TableCase):
    def test_1_not_ended(self):
        self.assert_fault(1, "^")
        self.assert_fault(1, "table^")
        self.assert_fault(1, "x \x00 ^")
        self.assert_fault(1, (HEAD + PARTS + DRAIN)[:-1] + "^")
        self.assert_fault(1, HEAD + PARTS + DRAIN + " ^")

    def test_2_bytes(self):
        for byte in ("\x00", "\t", "\r", "\x1f", "\x7f", "\xff"):
            self.assert_fault(2, f"table demo ^{byte}balls 1\n")
        self.assert_fault(2, "^ \n")
        self.assert_fault(2, "^ table demo balls 1\n")
        self.assert_fault(2, "table ^ demo balls 1\n")
        self.assert_fault(2, "table demo balls 1^ \n")
        self.assert_fault(2, "table demo balls 1 ^ \n")
        self.assert_fault(2, "tible demo balls 9^ \n")

    def test_3_first_words(self):
        self.assert_fault(3, "^\n")
        self.assert_fault(3, "^tables demo balls 1\n")
        self.assert_fault(3, "^switch s0 at 0 close 1 open 1\n")
        self.assert_fault(3, HEAD + "^table demo balls 1\n")
        self.assert_fault(3, HEAD + "^\n" + PARTS)
        self.assert_fault(3, HEAD + "^show s0\n")
        self.assert_fault(3, HEAD + PARTS + "^lamp l1 at 1\n")
        self.assert_fault(3, HEAD + PARTS + "^switch s9 at 9 close 1 open 1\n")
        self.assert_fault(3, HEAD + PARTS + DRAIN + "^coil c9 at 9 most 1 rest 1\n")
        self.assert_fault(3, HEAD + PARTS + DRAIN + "kick s1 c1 for 1\n^device e by c2 holds s2\n")

    def test_3_a_ninth(self):
        switches = "".join(f"switch s{k} at {k} close 1 open 1\n" for k in range(18))
        coils = "".join(f"coil c{k} at {k} most 1 rest 1\n" for k in range(18))
        devices = "".join(f"device d{k} by c{k} holds s{k} drain\n" for k in range(8))
        kicks = "".join(f"kick s{k} c{k} for 1\n" for k in range(9, 17))
        self.assert_right(HEAD + switches + coils + devices + kicks)
        self.assert_fault(3, HEAD + switches + coils + devices + "^device 9\n")
        self.assert_fault(3, HEAD + switches + coils + devices + kicks + "^kick s17 c17 for 1\n")
        held = " ".join(f"s{k}" for k in range(8))
        for ninth in ("s8", "s0", "Drain", "nothing"):
            self.assert_fault(3, HEAD + switches + coils + f"device d by c0 holds {held} ^{ninth}\n")

    def test_3_words_within_lines(self):
        for line in ("table demo ^ball 1", "table demo balls 1 ^1", "table^", "table demo^", "table demo balls^"):
            self.assert_fault(3, line + "\n")
        for line in ("switch^", "switch z^", "switch z ^on 9 close 1 open 1", "switch z at^", "switch z at 9^",
                     "switch z at 9 ^open 1 close 1", "switch z at 9 close^", "switch z at 9 close 1^",
                     "switch z at 9 close 1 ^opens 1", "switch z at 9 close 1 open^",
                     "switch z at 9 close 1 open 1 ^turn", "switch z at 9 close 1 open 1 turned ^turned"):
            self.assert_fault(3, HEAD + line + "\n")
        for line in ("lamp^", "lamp z^", "lamp z ^to 1", "lamp z at^", "lamp z at 1 ^turned"):
            self.assert_fault(3, HEAD + line + "\n")
        for line in ("coil^", "coil z^", "coil z ^by 9", "coil z at^", "coil z at 9^", "coil z at 9 ^rest 1 most 1",
                     "coil z at 9 most^", "coil z at 9 most 1^", "coil z at 9 most 1 ^hold 1",
                     "coil z at 9 most 1 rest^", "coil z at 9 most 1 rest 1 ^turned",
                     "coil z at 9 most 1 rest 1 hold^", "coil z at 9 most 1 rest 1 hold 1 ^hold"):
            self.assert_fault(3, HEAD + line + "\n")
        for line in ("device^", "device z^", "device z ^at c1", "device z by^", "device z by c1^",
                     "device z by c1 ^hold s1", "device z by c1 holds^", "device z by c1 holds s1 drain ^drain",
                     "device z by c1 holds s1 drain ^s2"):
            self.assert_fault(3, HEAD + PARTS + line + "\n")
        for line in ("kick^", "kick s1^", "kick s1 c1^", "kick s1 c1 ^at 1", "kick s1 c1 for^",
                     "kick s1 c1 for 1 ^to s2", "kick s1 c1 for 1 till^", "kick s1 c1 for 1 till s2 ^s3"):
            self.assert_fault(3, HEAD + PARTS + DRAIN + line + "\n")

    def test_4_names(self):
        for name in ("A", "0a", "_a", "abcdefghijklm", "a-b", "aB", "7", "a%", "~"):
            self.assert_fault(4, f"table ^{name} balls 1\n")
            self.assert_fault(4, HEAD + f"switch ^{name} at 0 close 1 open 1\n")
            self.assert_fault(4, HEAD + f"lamp ^{name} at 0\n")
            self.assert_fault(4, HEAD + f"coil ^{name} at 0\n")
            self.assert_fault(4, HEAD + PARTS + f"device ^{name} by c0\n")
            self.assert_fault(4, HEAD + PARTS + f"device d by ^{name}\n")
            self.assert_fault(4, HEAD + PARTS + f"device d by c0 holds ^{name}\n")
            self.assert_fault(4, HEAD + PARTS + f"device d by c0 holds s0 ^{name}\n")
            self.assert_fault(4, HEAD + PARTS + f"kick ^{name} c1 for 1\n")
            self.assert_fault(4, HEAD + PARTS + f"kick s1 ^{name} for 1\n")
            self.assert_fault(4, HEAD + PARTS + f"kick s1 c1 for 1 till ^{name}\n")
        self.assert_fault(4, HEAD + "switch ^drain at 0 close 1 open 1\n")
        self.assert_fault(4, HEAD + "lamp ^loop at 0\n")

    def test_4_numbers(self):
        for number in ("0", "9", "01", "-1", "+1", "1.", "x", "10", "1" * 5000):
            self.assert_fault(4, f"table demo balls ^{number}\n")
        for number in ("64", "00", "-0", "-1", "1a", "9" * 11):
            self.assert_fault(4, HEAD + f"switch z at ^{number} close 1 open 1\n")
            self.assert_fault(4, HEAD + f"lamp z at ^{number}\n")
        for number in ("0", "32", "01"):
            self.assert_fault(4, HEAD + f"switch z at 0 close ^{number} open 1\n")
            self.assert_fault(4, HEAD + f"switch z at 0 close 1 open ^{number}\n")
        self.assert_fault(4, HEAD + "coil z at ^32 most 1 rest 1\n")
        for number in ("0", "1024"):
            self.assert_fault(4, HEAD + f"coil z at 0 most ^{number} rest 1\n")
        for number in ("0", "4096"):
            self.assert_fault(4, HEAD + f"coil z at 0 most 1 rest ^{number}\n")
        for number in ("0", "16"):
            self.assert_fault(4, HEAD + f"coil z at 0 most 1 rest 1 hold ^{number}\n")
        for number in ("0", "256"):
            self.assert_fault(4, HEAD + PARTS + f"kick s1 c2 for ^{number}\n")

    def test_5_names_and_places(self):
        self.assert_fault(5, HEAD + PARTS.replace("switch s1", "switch ^s0"))
        self.assert_fault(5, HEAD + PARTS.replace("s1 at 1", "s1 at ^0"))
        self.assert_fault(5, HEAD + PARTS.replace("s3 at 3", "s3 at ^1"))
        self.assert_fault(5, HEAD + "lamp a at 0\nlamp ^a at 1\n")
        self.assert_fault(5, HEAD + "lamp a at 5\nlamp b at ^5\n")
        self.assert_fault(5, HEAD + "lamp a at 5\nlamp b at ^4\n")
        self.assert_fault(5, HEAD + PARTS + "coil ^c0 at 9\n")
        self.assert_fault(5, HEAD + PARTS + "coil z at ^2\n")
        self.assert_fault(5, HEAD + PARTS + DRAIN + "device ^d by c0 holds s0\n")
        self.assert_fault(5, HEAD + PARTS + DRAIN + "kick s2 c1 for 1\nkick ^s2 c2 for 1\n")
        self.assert_fault(5, HEAD + PARTS + DRAIN + "kick s2 c1 for 1\nkick ^s1 c2 for 1\n")
        more = PARTS + "coil c3 at 3 most 1 rest 1\n" + DRAIN
        self.assert_fault(5, HEAD + more + "kick s1 c1 for 1\nkick s3 c2 for 1\nkick ^s2 c3 for 1\n")

    def test_5_comes_before_7(self):
        self.assert_fault(5, HEAD + PARTS + DRAIN + "kick s2 c1 for 1\nkick ^s0 c2 for 1\n")

    def test_6_names_that_stand_nowhere(self):
        self.assert_fault(6, HEAD + PARTS + "device d by ^s0 holds s0\n")
        self.assert_fault(6, HEAD + PARTS + "device d by c0 holds ^c0\n")
        self.assert_fault(6, HEAD + PARTS + "device d by c0 holds ^drain\n")
        self.assert_fault(6, HEAD + PARTS + "device d by c0 holds s0 ^l0\n")
        self.assert_fault(6, HEAD + PARTS + DRAIN + "kick ^d c1 for 1\n")
        self.assert_fault(6, HEAD + PARTS + DRAIN + "kick s1 ^c9 for 1\n")
        self.assert_fault(6, HEAD + PARTS + DRAIN + "kick s1 c1 for 1 till ^c1\n")
        self.assert_fault(6, HEAD + PARTS + DRAIN + "kick s1 c1 for 1 till ^drain\n")

    def test_7_what_does_not_fit(self):
        self.assert_fault(7, HEAD + PARTS + DRAIN + "device e by ^c0 holds s1\n")
        self.assert_fault(7, HEAD + PARTS + DRAIN + "device e by c1 holds ^s0\n")
        self.assert_fault(7, HEAD + PARTS + DRAIN + "device e by c1 holds s1 ^s1\n")
        self.assert_fault(7, HEAD + PARTS + DRAIN + "kick ^s0 c1 for 1\n")
        self.assert_fault(7, HEAD + PARTS + DRAIN + "kick s1 ^c0 for 1\n")
        self.assert_fault(7, HEAD + PARTS + DRAIN + "kick s1 c1 for 1\nkick s2 ^c1 for 1\n")
        self.assert_fault(7, HEAD + PARTS + DRAIN + "kick s1 c1 for ^11\n")
        self.assert_fault(7, HEAD + PARTS + DRAIN + "kick s1 c1 for 1 till ^s1\n")

    def test_8_drains_hold_too_few(self):
        self.assert_fault(8, HEAD + "^")
        self.assert_fault(8, HEAD + PARTS + "^")
        self.assert_fault(8, HEAD + PARTS + "device d by c0 holds s0\n^")
        self.assert_fault(8, "table t balls 2\n" + PARTS + DRAIN + "device e by c1 holds s1 s2\n^")

    def test_the_first_of_two(self):
        self.assert_fault(4, "table ^X balls 9 9\n\n")
        self.assert_fault(3, HEAD + "^\n \n")
        self.assert_fault(6, HEAD + PARTS + "device d by ^x holds\nkick\x00")


if __name__ == "__main__":
    unittest.main()
