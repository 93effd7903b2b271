"""What is wrong with a text: the kind of its first fault, and its place."""

NOT_ENDED = 1
BAD_BYTE = 2
WRONG_WORD = 3
BAD_VALUE = 4
# A name that its sort has already, or a place that isn't above the one before.
NOT_NEW = 5
UNKNOWN = 6
UNFIT = 7
FEW_DRAINS = 8
# The text ends behind a line that needs others behind it.
LEFT_EMPTY = 9
TOO_MANY_PARTS = 10


# The first fault of a text.
class Fault(ValueError):
    def __init__(self, kind, place):
        self.kind = kind
        self.place = place
