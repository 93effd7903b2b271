"""What a call refuses, each refusal with the number that it is answered by."""


# The table's text, the book's, the rules' or the code has more bytes than it may have.
class TooLong(ValueError):
    def __init__(self):
        self.number = -2


# The table's or the book's text has a fault.
class FaultySetting(ValueError):
    def __init__(self):
        self.number = -8


# The code of right rules would have more bytes than it may have.
class CodeTooLong(ValueError):
    def __init__(self):
        self.number = -9


# No rules have this code.
class NotRight(ValueError):
    def __init__(self):
        self.number = -5
