"""Reading the text of rules."""

from tablerules.coding import FIRST_VARIABLE
from tablerules.fault import LEFT_EMPTY, NOT_ENDED, WRONG_WORD, Fault
from tablerules.handler import take_action, take_guarded, take_handler
from tablerules.lines import cut_line, line_spans, take_sort

SORTS = ("rules", "var", "mine", "timer", "signal", "mode", "on")
MOST_OF_SORT = {"rules": 1, "var": 64, "mine": 32, "timer": 16, "signal": 64, "mode": 15, "on": 256}
MOST_ACTIONS = 32
# Words of expressions, where a variable's name stands by itself.
BARRED_VARIABLES = ("left", "in", "closed")


# What rules' lines tell, for a table and the shows of a book.
class Rules:
    def __init__(self, setting):
        self.table = setting.table
        self.name = ""
        self.last_sort = None
        self.counts = {"rules": 0, "var": 0, "mine": 0, "timer": 0, "signal": 0, "mode": 0, "on": 0}
        self.names = dict(setting.names)
        self.names.update({"variable": {}, "timer": {}, "signal": {}, "mode": {}})
        self.starts = []
        self.handlers = []

    def wants_action(self):
        """Whether there's a last handler, and it has no action."""
        return len(self.handlers) > 0 and len(self.handlers[-1].actions) == 0


def read_action(rules, line):
    """A line that begins with do or when."""
    word = line.take()
    if len(rules.handlers) == 0 or len(rules.handlers[-1].actions) == MOST_ACTIONS:
        raise Fault(WRONG_WORD, line.spot())
    if word == "when":
        code = take_guarded(rules, line)
    else:
        code = [0] + take_action(rules, line)
    rules.handlers[-1].actions.append(code)


def read_variable(rules, line, sort):
    """The words behind var or mine."""
    known = rules.names["variable"]
    name = line.take_new(known, BARRED_VARIABLES)
    rules.starts.append(line.take_signed())
    known[name] = FIRST_VARIABLE[sort] + rules.counts[sort]


def read_behind(rules, line, sort):
    """The words behind the first of a line of this sort."""
    if sort == "rules":
        rules.name = line.take_name()
    elif sort == "var" or sort == "mine":
        read_variable(rules, line, sort)
    elif sort == "on":
        rules.handlers.append(take_handler(rules.names, line))
    else:
        name = line.take_new(rules.names[sort], ())
        rules.names[sort][name] = rules.counts[sort]


def read_line(rules, line):
    """A line of any sort."""
    if line.next_is("do") or line.next_is("when"):
        read_action(rules, line)
        return
    sort = take_sort(line, SORTS, rules.last_sort)
    if rules.counts[sort] == MOST_OF_SORT[sort] or rules.wants_action():
        raise Fault(WRONG_WORD, line.spot())
    read_behind(rules, line, sort)
    rules.counts[sort] += 1
    rules.last_sort = sort


def read_rules(setting, text):
    """The rules of a right text for a table and the shows of a book."""
    if len(text) == 0:
        raise Fault(NOT_ENDED, 0)
    rules = Rules(setting)
    for span in line_spans(text):
        line = cut_line(text, span)
        read_line(rules, line)
        line.finish()
    if rules.wants_action():
        raise Fault(LEFT_EMPTY, len(text))
    return rules
