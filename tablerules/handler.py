"""Reading handlers: their events and their actions."""

from tablerules.coding import number_code
from tablerules.expression import take_expression
from tablerules.fault import UNFIT, WRONG_WORD, Fault

MOST_TIME = 1023
MOST_LEVEL = 15
TIME_BYTES = 2
# By an event's word: its lowest number, and the sort of the name behind it.
EVENTS = {
    "closed": (0, "switch"),
    "opened": (64, "switch"),
    "ended": (128, "timer"),
    "gained": (144, "device"),
    "parted": (152, "device"),
    "stuck": (160, "device"),
    "coin": (168, None),
    "start": (169, None),
    "warning": (170, None),
    "tilt": (171, None),
    "ball": (172, None),
    "lost": (173, None),
    "back": (174, None),
    "sent": (192, "signal"),
}
# By an action's word: its kind, and what stands behind it: an expression, a
# level, a time for a coil (of fire, of hold), or a name of a sort.
ACTIONS = {
    "score": (0, ("expression",)),
    "set": (1, ("variable", "expression")),
    "fire": (2, ("fired",)),
    "hold": (3, ("held",)),
    "release": (4, ("coil",)),
    "show": (5, ("show", "level")),
    "hide": (6, ("level",)),
    "light": (7, ("lamp",)),
    "dark": (8, ("lamp",)),
    "begin": (9, ("mode",)),
    "finish": (10, ("mode",)),
    "run": (11, ("timer", "expression")),
    "halt": (12, ("timer",)),
    "send": (13, ("signal",)),
    "eject": (14, ("device",)),
    "stop": (15, ()),
}


# An event's number, a mode's number and 1 (0: no mode), and the bytes of each action.
class Handler:
    def __init__(self, event, mode):
        self.event = event
        self.mode = mode
        self.actions = []


def take_event(names, line):
    """Take an event's words and give back its number."""
    word = line.take()
    if word not in EVENTS:
        raise Fault(WRONG_WORD, line.spot())
    lowest = EVENTS[word][0]
    sort = EVENTS[word][1]
    if sort is None:
        return lowest
    return lowest + line.take_known(names[sort])


def take_handler(names, line):
    """Take the words behind on."""
    event = take_event(names, line)
    if not line.has_more():
        return Handler(event, 0)
    line.take_word("in")
    return Handler(event, line.take_known(names["mode"]) + 1)


def take_coil_time(rules, line, needs_hold):
    """Take a coil and a time that it may be on, and give back their bytes."""
    coil = line.take_known(rules.names["coil"])
    if needs_hold and coil not in rules.table.holding:
        raise Fault(UNFIT, line.spot())
    time = line.take_number(1, MOST_TIME)
    if time > rules.table.mosts[coil]:
        raise Fault(UNFIT, line.spot())
    return [coil] + number_code(time, TIME_BYTES)


def take_belonging(rules, line, what):
    """Take what stands behind an action's word and give back its bytes."""
    if what == "expression":
        return take_expression(rules.names, line)
    if what == "level":
        return [line.take_number(0, MOST_LEVEL)]
    if what == "fired" or what == "held":
        return take_coil_time(rules, line, what == "held")
    return [line.take_known(rules.names[what])]


def take_action(rules, line):
    """Take an action's words and give back its bytes."""
    word = line.take()
    if word not in ACTIONS:
        raise Fault(WRONG_WORD, line.spot())
    code = [ACTIONS[word][0]]
    for what in ACTIONS[word][1]:
        code.extend(take_belonging(rules, line, what))
    return code


def take_guarded(rules, line):
    """Take a guard, do and an action, the word when being taken, and give back their bytes."""
    guard = take_expression(rules.names, line)
    line.take_word("do")
    return [1] + guard + take_action(rules, line)
