"""The calls."""

from tablerules.coding import COUNTED, rules_code
from tablerules.decoding import decode, number_of
from tablerules.fault import Fault
from tablerules.reader import read_rules
from tablerules.refusal import CodeTooLong, FaultySetting, NotRight, TooLong
from tablerules.setting import MOST_BYTES, read_setting

NO_SORT = -1
NO_SUCH_NAME = -4
RULES_FAULT = -6


def make_code(table, book, rules):
    """The bytes of the code of right rules."""
    made = rules_code(read_rules(read_setting(table, book, rules), rules))
    if len(made) > MOST_BYTES:
        raise CodeTooLong()
    return made


def judge(table, book, rules):
    """Whether the rules' text is right for the table and the book, or what its first fault is."""
    try:
        make_code(table, book, rules)
    except (TooLong, FaultySetting, CodeTooLong) as refusal:
        return [refusal.number]
    except Fault as fault:
        return [RULES_FAULT, fault.kind, fault.place]
    return [0]


def code(table, book, rules):
    """The code of the rules' text for the table and the book."""
    try:
        made = make_code(table, book, rules)
    except (TooLong, FaultySetting, CodeTooLong) as refusal:
        return [refusal.number]
    except Fault:
        return [RULES_FAULT]
    return [0] + made


def right(table, book, code):
    """Whether some rules for the table and the book have the code."""
    try:
        decode(table, book, code)
    except (TooLong, FaultySetting, NotRight) as refusal:
        return [refusal.number]
    return [0]


def text(table, book, code):
    """The text of the rules for the table and the book that have the code."""
    try:
        decoded = decode(table, book, code)
    except (TooLong, FaultySetting, NotRight) as refusal:
        return [refusal.number]
    return [0] + decoded.text


def find(sort, table, book, code, name):
    """The number that the name has within its sort (0 var, 1 mine, 2 timer, 3 signal, 4 mode) in the code."""
    try:
        decoded = decode(table, book, code)
    except (TooLong, FaultySetting, NotRight) as refusal:
        return [refusal.number]
    if sort >= len(COUNTED):
        return [NO_SORT]
    number = number_of(decoded.rules, COUNTED[sort], name)
    if number is None:
        return [NO_SUCH_NAME]
    return [0, number]


def sizes(table, book, code):
    """How many vars, mines, timers, signals, modes and handlers the code has."""
    try:
        decoded = decode(table, book, code)
    except (TooLong, FaultySetting, NotRight) as refusal:
        return [refusal.number]
    return [0] + [decoded.rules.counts[sort] for sort in COUNTED] + [len(decoded.rules.handlers)]
