"""Reading the text of a book of shows."""

from tablerules.fault import LEFT_EMPTY, UNKNOWN, WRONG_WORD, Fault
from tablerules.lines import cut_line, line_spans

MOST_SHOWS = 32
MOST_STEPS = 16
MOST_TIME = 65535


# The shows' numbers by their names, and of the last show its lamps' places and how many steps it has.
class Book:
    def __init__(self):
        self.shows = {}
        self.lamps = []
        self.steps = 0

    def wants_step(self):
        """Whether there's a last show, and it has no step."""
        return len(self.shows) > 0 and self.steps == 0


def read_show(book, lamps, line):
    """The words behind show."""
    if len(book.shows) == MOST_SHOWS or book.wants_step():
        raise Fault(WRONG_WORD, line.spot())
    name = line.take_new(book.shows, ())
    line.take_word("on")
    places = [line.take_known(lamps)]
    while line.has_more() and not line.next_is("loop"):
        places.append(line.take_above(lamps, places))
    if line.next_is("loop"):
        line.take_word("loop")
    book.shows[name] = len(book.shows)
    book.lamps = places
    book.steps = 0


def read_step(book, lamps, line):
    """The words behind step."""
    if len(book.shows) == 0 or book.steps == MOST_STEPS:
        raise Fault(WRONG_WORD, line.spot())
    line.take_number(1, MOST_TIME)
    places = []
    while line.has_more():
        place = line.take_above(lamps, places)
        if place not in book.lamps:
            raise Fault(UNKNOWN, line.spot())
        places.append(place)
    book.steps += 1


def read_book(lamps, text):
    """The shows' numbers by their names, of a right text for a table's lamps."""
    book = Book()
    for span in line_spans(text):
        line = cut_line(text, span)
        word = line.take()
        if word == "show":
            read_show(book, lamps, line)
        elif word == "step":
            read_step(book, lamps, line)
        else:
            raise Fault(WRONG_WORD, line.spot())
        line.finish()
    if book.wants_step():
        raise Fault(LEFT_EMPTY, len(text))
    return book.shows
