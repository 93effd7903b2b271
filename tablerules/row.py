"""A code's bytes taken from the front."""

from tablerules.coding import NAME_BYTES
from tablerules.lines import BLANK, LAST_SIGN, signs_of
from tablerules.refusal import NotRight


# A code, and how many of its bytes are taken already.
class Row:
    def __init__(self, code):
        self.code = code
        self.taken = 0

    def take(self):
        """Take a byte, which has to be there."""
        if self.taken == len(self.code):
            raise NotRight()
        self.taken += 1
        return self.code[self.taken - 1]

    def take_many(self, count):
        """Take so many bytes."""
        return [self.take() for step in range(count)]

    def take_number(self, count):
        """Take a number of so many bytes, the lowest first."""
        number = 0
        for byte in reversed(self.take_many(count)):
            number = 256 * number + byte
        return number

    def take_name(self):
        """Take a name's bytes, and give back the signs ahead of its first byte 0."""
        row = self.take_many(NAME_BYTES)
        if 0 in row:
            row = row[:row.index(0)]
        if any([byte < BLANK or byte > LAST_SIGN for byte in row]):
            raise NotRight()
        return signs_of(row)

    def take_known(self, names):
        """Take a number that has a name, and give back its name."""
        return name_of(names, self.take())


def name_of(names, number):
    """The name of a number, which has to have one."""
    if number not in names:
        raise NotRight()
    return names[number]
