"""Telling a code's text.

What is told here for a code that isn't right may be at fault, or the text of another code: only what no words stand
for is refused. Whoever asks for the text reads it again, and compares.
"""

from tablerules.coding import COUNTED, FIRST_VARIABLE, HANDLER_COUNT_BYTES, HEAD, NUMBER_BYTES
from tablerules.expression import FIRST_OPERATOR, NAMED_PARTS, NOT_PART, NUMBER_PART, OPERATORS, VARIABLE_PART, operands
from tablerules.handler import ACTIONS, EVENTS, TIME_BYTES
from tablerules.lines import line_bytes
from tablerules.refusal import NotRight
from tablerules.row import Row, name_of
from tablerules.words import GREATEST_NUMBER

# What a number below 0 has more in code.
WHOLE_TURN = 4294967296


def names_by_number(setting):
    """Of each sort the names by their numbers: those of the setting, and none yet of the rules' own."""
    names = {"variable": {}, "timer": {}, "signal": {}, "mode": {}}
    for sort in setting.names:
        known = setting.names[sort]
        names[sort] = dict([(known[name], name) for name in known])
    return names


def tell_signed(row):
    """Tell a number that may be below 0."""
    number = row.take_number(NUMBER_BYTES)
    if number > GREATEST_NUMBER:
        number -= WHOLE_TURN
    return str(number)


def tell_part(names, row, kind):
    """Tell the words of an expression's part of this kind."""
    if kind == NUMBER_PART:
        return [tell_signed(row)]
    if kind == VARIABLE_PART:
        return [row.take_known(names["variable"])]
    if kind == NOT_PART:
        return ["!"]
    for word in NAMED_PARTS:
        if NAMED_PARTS[word][0] == kind:
            return [word, row.take_known(names[NAMED_PARTS[word][1]])]
    if kind - FIRST_OPERATOR >= len(OPERATORS):
        raise NotRight()
    return [OPERATORS[kind - FIRST_OPERATOR]]


def tell_expression(names, row):
    """Tell the words of one expression."""
    words = []
    wanted = 1
    while wanted > 0:
        kind = row.take()
        words.extend(tell_part(names, row, kind))
        wanted += operands(kind) - 1
    return words


def tell_belonging(names, row, what):
    """Tell what stands behind an action's word."""
    if what == "expression":
        return tell_expression(names, row)
    if what == "level":
        return [str(row.take())]
    if what == "fired" or what == "held":
        coil = row.take_known(names["coil"])
        return [coil, str(row.take_number(TIME_BYTES))]
    return [row.take_known(names[what])]


def tell_action(names, row):
    """Tell the words of an action's line."""
    guard = row.take()
    if guard > 1:
        raise NotRight()
    words = ["do"]
    if guard == 1:
        words = ["when"] + tell_expression(names, row) + words
    kind = row.take()
    if kind >= len(ACTIONS):
        raise NotRight()
    # The actions stand in the order of their kinds.
    word = list(ACTIONS)[kind]
    words.append(word)
    for what in ACTIONS[word][1]:
        words.extend(tell_belonging(names, row, what))
    return words


def tell_event(names, row):
    """Tell an event's words."""
    number = row.take()
    # The events stand in the order of their lowest numbers.
    word = [event for event in EVENTS if EVENTS[event][0] <= number][-1]
    above = number - EVENTS[word][0]
    sort = EVENTS[word][1]
    if sort is not None:
        return [word, name_of(names[sort], above)]
    if above > 0:
        raise NotRight()
    return [word]


def tell_handler(names, row):
    """Tell the lines of a handler."""
    words = ["on"] + tell_event(names, row)
    mode = row.take()
    if mode > 0:
        words.extend(["in", name_of(names["mode"], mode - 1)])
    count = row.take()
    # The byte 0.
    row.take()
    lines = [words]
    for step in range(count):
        lines.append(tell_action(names, row))
    return lines


def tell_declared(names, row, sort, count):
    """Tell the lines of a sort of which there are so many, and keep their names."""
    lines = []
    for number in range(count):
        name = row.take_name()
        if sort in FIRST_VARIABLE:
            lines.append([sort, name, tell_signed(row)])
            names["variable"][FIRST_VARIABLE[sort] + number] = name
        else:
            lines.append([sort, name])
            names[sort][number] = name
    return lines


def tell_lines(names, row):
    """Tell all lines, each by its words."""
    row.take_many(len(HEAD))
    lines = [["rules", row.take_name()]]
    counts = row.take_many(len(COUNTED))
    # The byte 0.
    row.take()
    handlers = row.take_number(HANDLER_COUNT_BYTES)
    for sort, count in zip(COUNTED, counts):
        lines.extend(tell_declared(names, row, sort, count))
    for step in range(handlers):
        lines.extend(tell_handler(names, row))
    return lines


def tell_text(setting, code):
    """The bytes of the text of a code that's right for the setting."""
    text = []
    for words in tell_lines(names_by_number(setting), Row(code)):
        text.extend(line_bytes(words))
    return text
