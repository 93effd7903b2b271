"""What a right code stands for."""

from tablerules.coding import name_bytes, rules_code
from tablerules.fault import Fault
from tablerules.reader import read_rules
from tablerules.refusal import NotRight
from tablerules.setting import read_setting
from tablerules.telling import tell_text


# The bytes of a right code's text, and the rules that are read from it.
class Decoded:
    def __init__(self, text, rules):
        self.text = text
        self.rules = rules


def decode(table, book, code):
    """What a right code stands for: it's right if the text that it tells is right and has it."""
    setting = read_setting(table, book, code)
    text = tell_text(setting, code)
    try:
        rules = read_rules(setting, text)
    except Fault:
        raise NotRight() from None
    if rules_code(rules) != code:
        raise NotRight()
    return Decoded(text, rules)


def names_of_sort(rules, sort):
    """The names that rules have of a sort, in the text's order."""
    variables = list(rules.names["variable"])
    if sort == "var":
        return variables[:rules.counts["var"]]
    if sort == "mine":
        return variables[rules.counts["var"]:]
    return list(rules.names[sort])


def number_of(rules, sort, name):
    """The number within its sort of a name, told by its bytes; None if the sort hasn't it."""
    for number, known in enumerate(names_of_sort(rules, sort)):
        if name_bytes(known) == name:
            return number
    return None
