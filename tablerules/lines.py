"""A text's lines, and their words taken from left to right."""

from tablerules.fault import BAD_BYTE, BAD_VALUE, NOT_ENDED, NOT_NEW, UNKNOWN, WRONG_WORD, Fault
from tablerules.words import is_name, plain_number, signed_number

LINE_END = 10
BLANK = 32
LAST_SIGN = 126
# The signs of the bytes from 32 on. That of the byte 37 may not stand in this
# program's texts: a line feed, which no line has within it, stands for it.
SIGNS = (" !\"#$\n&'()*+,-./0123456789:;<=>?@ABCDEFGHIJKLMNOPQRSTUVWXYZ"
         "[\\]^_`abcdefghijklmnopqrstuvwxyz{|}~")


# A line's words, of which some are taken already; end is the place of its NL.
class Line:
    def __init__(self, words, places, end):
        self.words = words
        self.places = places
        self.end = end
        self.taken = 0

    def has_more(self):
        """Whether there's a word that isn't taken yet."""
        return self.taken < len(self.words)

    def next_is(self, word):
        """Whether there's a word that isn't taken yet, and the next one is this."""
        return self.has_more() and self.words[self.taken] == word

    def spot(self):
        """The place of the word taken last."""
        return self.places[self.taken - 1]

    def take(self):
        """Take a word, which has to be there."""
        if not self.has_more():
            raise Fault(WRONG_WORD, self.end)
        self.taken += 1
        return self.words[self.taken - 1]

    def take_word(self, word):
        """Take just this word."""
        if self.take() != word:
            raise Fault(WRONG_WORD, self.spot())

    def finish(self):
        """See that no word is left."""
        if self.has_more():
            raise Fault(WRONG_WORD, self.places[self.taken])

    def take_name(self):
        """Take a word that has the form of a name."""
        word = self.take()
        if not is_name(word):
            raise Fault(BAD_VALUE, self.spot())
        return word

    def take_new(self, known, barred):
        """Take a name that isn't known yet and none of the barred ones."""
        name = self.take_name()
        if name in barred:
            raise Fault(BAD_VALUE, self.spot())
        if name in known:
            raise Fault(NOT_NEW, self.spot())
        return name

    def take_known(self, known):
        """Take a name that's known, and give back what it is known for."""
        name = self.take_name()
        if name not in known:
            raise Fault(UNKNOWN, self.spot())
        return known[name]

    def take_number(self, least, most):
        """Take a number without a sign within the bounds."""
        number = plain_number(self.take())
        if number is None or number < least or number > most:
            raise Fault(BAD_VALUE, self.spot())
        return number

    def take_signed(self):
        """Take a number that may have a minus."""
        number = signed_number(self.take())
        if number is None:
            raise Fault(BAD_VALUE, self.spot())
        return number

    def take_above(self, known, places):
        """Take a known name whose place is above the last of the places."""
        place = self.take_known(known)
        if places and place <= places[-1]:
            raise Fault(NOT_NEW, self.spot())
        return place


def line_spans(text):
    """Where each line begins and ends; a last line that has no NL ends where the text does."""
    spans = []
    start = 0
    for place, byte in enumerate(text):
        if byte == LINE_END:
            spans.append((start, place))
            start = place + 1
    if start < len(text):
        spans.append((start, len(text)))
    return spans


def check_bytes(text, start, end):
    """See that a line has signs alone, and single blanks between words."""
    # A blank is as wrong at a line's beginning as behind another one.
    before = BLANK
    for place in range(start, end):
        byte = text[place]
        if byte < BLANK or byte > LAST_SIGN:
            raise Fault(BAD_BYTE, place)
        if byte == BLANK and (before == BLANK or place + 1 == end):
            raise Fault(BAD_BYTE, place)
        before = byte


def signs_of(row):
    """The signs of bytes from 32 to 126."""
    return "".join([SIGNS[byte - BLANK] for byte in row])


def line_bytes(words):
    """The bytes of the line of these words."""
    return [BLANK + SIGNS.index(sign) for sign in " ".join(words)] + [LINE_END]


def cut_line(text, span):
    """The line of a span, if it is ended and its bytes are right."""
    start = span[0]
    end = span[1]
    if end == len(text):
        raise Fault(NOT_ENDED, end)
    check_bytes(text, start, end)
    if start == end:
        return Line([], [], end)
    words = signs_of(text[start:end]).split(" ")
    places = []
    place = start
    for word in words:
        places.append(place)
        place += len(word) + 1
    return Line(words, places, end)


def take_sort(line, sorts, before):
    """Take the line's first word: a sort that may come behind the sort before (None: nothing is before)."""
    word = line.take()
    if before is None:
        allowed = sorts[:1]
    else:
        # The first sort's line stands once, so it can't come again.
        allowed = sorts[max(sorts.index(before), 1):]
    if word not in allowed:
        raise Fault(WRONG_WORD, line.spot())
    return word
