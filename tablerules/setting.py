"""What rules are read for: a table and the shows of a book."""

from tablerules.book import read_book
from tablerules.fault import Fault
from tablerules.refusal import FaultySetting, TooLong
from tablerules.table import read_table

MOST_TABLE_BYTES = 16384
MOST_BYTES = 65536


# A table, and of each sort that it and a book have the numbers (or places) by the names.
class Setting:
    def __init__(self, table, shows):
        self.table = table
        self.names = {
            "switch": table.switches,
            "lamp": table.lamps,
            "coil": table.coils,
            "device": table.devices,
            "show": shows,
        }


def read_setting(table, book, third):
    """The setting of right texts; third is what a call is handed besides, the rules' text or a code."""
    if len(table) > MOST_TABLE_BYTES or len(book) > MOST_BYTES or len(third) > MOST_BYTES:
        raise TooLong()
    try:
        known = read_table(table)
        return Setting(known, read_book(known.lamps, book))
    except Fault:
        raise FaultySetting() from None
