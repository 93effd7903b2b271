"""The calls."""

from tablerules.book import read_book
from tablerules.coding import rules_code
from tablerules.fault import Fault
from tablerules.reader import read_rules
from tablerules.table import read_table

MOST_TABLE = 16384
MOST_BYTES = 65536
TOO_LONG = -2
RULES_FAULT = -6
TABLE_FAULT = -8
CODE_TOO_LONG = -9


def judge(table, book, rules):
    """Whether the rules' text is right for the table and the book, or what its first fault is."""
    if len(table) > MOST_TABLE or len(book) > MOST_BYTES or len(rules) > MOST_BYTES:
        return [TOO_LONG]
    try:
        setting = read_table(table)
        shows = read_book(setting.lamps, book)
    except Fault:
        return [TABLE_FAULT]
    try:
        meant = read_rules(setting, shows, rules)
    except Fault as fault:
        return [RULES_FAULT, fault.kind, fault.place]
    if len(rules_code(meant)) > MOST_BYTES:
        return [CODE_TOO_LONG]
    return [0]
