"""Reading a table's text."""

from tablerules.fault import FEW_DRAINS, NOT_ENDED, NOT_NEW, UNFIT, WRONG_WORD, Fault
from tablerules.lines import cut_line, line_spans, take_sort

SORTS = ("table", "switch", "lamp", "coil", "device", "kick")
MOST_BALLS = 8
LAST_SWITCH = 63
LAST_LAMP = 63
LAST_COIL = 31
MOST_BOUNCE = 31
MOST_PULSE = 1023
MOST_REST = 4095
MOST_HOLD = 15
MOST_DEVICES = 8
MOST_HELD = 8
MOST_KICKS = 8
MOST_KICK = 255


# What a table's lines tell; no two of a sort share a place, so coils and switches are kept by theirs.
class Table:
    def __init__(self):
        self.balls = 0
        self.switches = {}
        self.lamps = {}
        self.coils = {}
        self.mosts = {}
        self.holding = {}
        self.devices = {}
        self.device_coils = {}
        self.device_switches = {}
        self.drained = 0
        self.kick_places = []
        self.kick_coils = {}


def read_head(table, line):
    """The words behind table."""
    line.take_name()
    line.take_word("balls")
    table.balls = line.take_number(1, MOST_BALLS)


def take_place(line, places, most):
    """Take at and a place above those that the sort has."""
    line.take_word("at")
    place = line.take_number(0, most)
    if places and place <= max(places.values()):
        raise Fault(NOT_NEW, line.spot())
    return place


def read_switch(table, line):
    """The words behind switch."""
    # A device's line may end with the word drain.
    name = line.take_new(table.switches, ("drain",))
    place = take_place(line, table.switches, LAST_SWITCH)
    line.take_word("close")
    line.take_number(1, MOST_BOUNCE)
    line.take_word("open")
    line.take_number(1, MOST_BOUNCE)
    if line.has_more():
        line.take_word("turned")
    table.switches[name] = place


def read_lamp(table, line):
    """The words behind lamp."""
    # A show's line may end with the word loop.
    name = line.take_new(table.lamps, ("loop",))
    table.lamps[name] = take_place(line, table.lamps, LAST_LAMP)


def read_coil(table, line):
    """The words behind coil."""
    name = line.take_new(table.coils, ())
    place = take_place(line, table.coils, LAST_COIL)
    line.take_word("most")
    table.mosts[place] = line.take_number(1, MOST_PULSE)
    line.take_word("rest")
    line.take_number(1, MOST_REST)
    if line.has_more():
        line.take_word("hold")
        table.holding[place] = line.take_number(1, MOST_HOLD)
    table.coils[name] = place


def take_device_switch(table, line):
    """Take a switch that no device has."""
    switch = line.take_known(table.switches)
    if switch in table.device_switches:
        raise Fault(UNFIT, line.spot())
    table.device_switches[switch] = True


def read_held(table, line):
    """The words behind holds: one switch or more, then perhaps drain."""
    take_device_switch(table, line)
    held = 1
    while line.has_more():
        if held == MOST_HELD or line.next_is("drain"):
            line.take_word("drain")
            table.drained += held
            return
        take_device_switch(table, line)
        held += 1


def read_device(table, line):
    """The words behind device."""
    if len(table.devices) == MOST_DEVICES:
        raise Fault(WRONG_WORD, line.spot())
    name = line.take_new(table.devices, ())
    line.take_word("by")
    coil = line.take_known(table.coils)
    if coil in table.device_coils:
        raise Fault(UNFIT, line.spot())
    table.device_coils[coil] = True
    line.take_word("holds")
    read_held(table, line)
    table.devices[name] = len(table.devices)


def read_kick(table, line):
    """The words behind kick."""
    if len(table.kick_places) == MOST_KICKS:
        raise Fault(WRONG_WORD, line.spot())
    switch = line.take_above(table.switches, table.kick_places)
    if switch in table.device_switches:
        raise Fault(UNFIT, line.spot())
    coil = line.take_known(table.coils)
    if coil in table.device_coils or coil in table.kick_coils:
        raise Fault(UNFIT, line.spot())
    line.take_word("for")
    if line.take_number(1, MOST_KICK) > table.mosts[coil]:
        raise Fault(UNFIT, line.spot())
    if line.has_more():
        line.take_word("till")
        if line.take_known(table.switches) == switch:
            raise Fault(UNFIT, line.spot())
    table.kick_places.append(switch)
    table.kick_coils[coil] = True


READERS = {
    "table": read_head,
    "switch": read_switch,
    "lamp": read_lamp,
    "coil": read_coil,
    "device": read_device,
    "kick": read_kick,
}


def read_table(text):
    """The table of a right text."""
    if len(text) == 0:
        raise Fault(NOT_ENDED, 0)
    table = Table()
    sort = None
    for span in line_spans(text):
        line = cut_line(text, span)
        sort = take_sort(line, SORTS, sort)
        READERS[sort](table, line)
        line.finish()
    if table.drained < table.balls:
        raise Fault(FEW_DRAINS, len(text))
    return table
