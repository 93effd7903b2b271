"""Reading an expression's words into its code."""

from tablerules.coding import NUMBER_BYTES, number_code
from tablerules.fault import BAD_VALUE, TOO_MANY_PARTS, UNKNOWN, WRONG_WORD, Fault
from tablerules.words import is_like_number, is_name, signed_number

MOST_PARTS = 63
NUMBER_PART = 0
VARIABLE_PART = 1
NAMED_PARTS = {"left": (2, "timer"), "in": (3, "mode"), "closed": (4, "switch")}
NOT_PART = 5
FIRST_OPERATOR = 6
# The line feed stands for the byte 37, see lines.SIGNS.
OPERATORS = ("+", "-", "*", "/", "\n", "<", "=", "&", "|")


def can_begin_part(names, word):
    """Whether the word is one of an expression's words, a number or a variable's name."""
    if word == "!" or word in OPERATORS or word in NAMED_PARTS:
        return True
    return word in names["variable"] or signed_number(word) is not None


def wrong_word_kind(word):
    """The kind of fault of a word that can't begin a part."""
    if is_like_number(word):
        return BAD_VALUE
    if is_name(word):
        return UNKNOWN
    return WRONG_WORD


def part_code(names, line, word):
    """The bytes of the part that the word begins, and of the name behind it that belongs to it."""
    if word == "!":
        return [NOT_PART]
    if word in OPERATORS:
        return [FIRST_OPERATOR + OPERATORS.index(word)]
    if word in NAMED_PARTS:
        kind = NAMED_PARTS[word][0]
        sort = NAMED_PARTS[word][1]
        return [kind, line.take_known(names[sort])]
    if word in names["variable"]:
        return [VARIABLE_PART, names["variable"][word]]
    return [NUMBER_PART] + number_code(signed_number(word), NUMBER_BYTES)


def operands(kind):
    """How many expressions stand behind a part of this kind."""
    if kind >= FIRST_OPERATOR:
        return 2
    return 1 if kind == NOT_PART else 0


def take_expression(names, line):
    """Take the words of one expression and give back its bytes."""
    code = []
    parts = 0
    wanted = 1
    while wanted > 0:
        word = line.take()
        # All kinds that this may tell are less than that of too many parts.
        if not can_begin_part(names, word):
            raise Fault(wrong_word_kind(word), line.spot())
        if parts == MOST_PARTS:
            raise Fault(TOO_MANY_PARTS, line.spot())
        parts += 1
        part = part_code(names, line, word)
        code.extend(part)
        wanted += operands(part[0]) - 1
    return code
