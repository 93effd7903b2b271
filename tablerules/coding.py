"""How names, numbers and whole rules stand in code."""

NAME_BYTES = 12
NUMBER_BYTES = 4
HANDLER_COUNT_BYTES = 2
HEAD = (84, 82, 1, 0)
COUNTED = ("var", "mine", "timer", "signal", "mode")
NAMED_ONLY = ("timer", "signal", "mode")
# A mine's number stands behind those of all vars that there may be.
FIRST_VARIABLE = {"var": 0, "mine": 64}


def name_bytes(name):
    """The bytes of a name by itself."""
    return [ord(sign) for sign in name]


def name_code(name):
    """The bytes of a name as it stands in code."""
    return name_bytes(name) + [0] * (NAME_BYTES - len(name))


def number_code(number, count):
    """So many bytes of a number, the lowest first; one below 0 stands as 2^32 more."""
    return [(number >> (8 * step)) & 255 for step in range(count)]


def variables_code(rules):
    """The bytes of the vars, then of the mines, which stand in this order already."""
    code = []
    for name, start in zip(rules.names["variable"], rules.starts):
        code.extend(name_code(name))
        code.extend(number_code(start, NUMBER_BYTES))
    return code


def handler_code(handler):
    """The bytes of a handler with its actions."""
    code = [handler.event, handler.mode, len(handler.actions), 0]
    for action in handler.actions:
        code.extend(action)
    return code


def rules_code(rules):
    """The bytes of rules."""
    code = list(HEAD)
    code.extend(name_code(rules.name))
    code.extend([rules.counts[sort] for sort in COUNTED])
    code.append(0)
    code.extend(number_code(len(rules.handlers), HANDLER_COUNT_BYTES))
    code.extend(variables_code(rules))
    for sort in NAMED_ONLY:
        for name in rules.names[sort]:
            code.extend(name_code(name))
    for handler in rules.handlers:
        code.extend(handler_code(handler))
    return code
