"""Texts that the tests share, and how they are handed to the calls."""

from tablerules.rules import code, judge

TABLE = """table demo balls 3
switch trough_a at 0 close 2 open 3
switch trough_b at 1 close 31 open 31 turned
switch trough_c at 2 close 1 open 1
switch bumper at 10 close 1 open 1
switch lane at 11 close 5 open 5
switch in at 63 close 5 open 5
lamp red at 0
lamp green at 5
lamp blue at 63
coil trough at 0 most 20 rest 200
coil pop at 1 most 30 rest 4095
coil flip at 7 most 1023 rest 1 hold 15
coil gate at 31 most 255 rest 1 hold 1
device trough by trough holds trough_a trough_b trough_c drain
kick bumper pop for 30 till lane
"""

BOOK = """show hello on red green blue loop
step 10 red blue
step 65535
show bye on green
step 1 green
"""

DECLARED = """rules demo
var hits 0
var low -2147483648
var high 2147483647
mine bonus 7
mine best -1
timer saver
timer left
signal jackpot
signal lit
mode multi
mode wizard
"""


def data(text):
    """The bytes of a text, one for each of its signs."""
    return list(text.encode("latin-1"))


def judged(rules, table=TABLE, book=BOOK):
    return judge(data(table), data(book), data(rules))


def coded(rules, table=TABLE, book=BOOK):
    return code(data(table), data(book), data(rules))


def marked(text):
    """A text without its mark ^, and the mark's place."""
    place = text.index("^")
    return text[:place] + text[place + 1:], place
