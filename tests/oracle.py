"""Whether a code is right, reckoned from the document straight over the bytes: no text is made of it."""

import re

MOST = (64, 32, 16, 64, 15)
NAME = re.compile(rb"[a-z][a-z0-9_]{0,11}\0*")


class Wrong(Exception):
    pass


def need(condition):
    if not condition:
        raise Wrong


class Oracle:
    def __init__(self, world, code):
        self.code = bytes(code)
        self.place = 0
        self.switches = set(world.switches.values())
        self.lamps = set(world.lamps.values())
        self.coils = {place: (most, held) for place, most, held in world.coils.values()}
        self.devices = len(world.devices)
        self.shows = len(world.shows)

    def cut(self, count):
        need(self.place + count <= len(self.code))
        self.place += count
        return self.code[self.place - count:self.place]

    def byte(self, allowed):
        byte = self.cut(1)[0]
        need(byte in allowed)
        return byte

    def names(self, count, number_bytes):
        names = []
        for k in range(count):
            names.append(self.cut(12))
            self.cut(number_bytes)
        need(all(NAME.fullmatch(name) for name in names))
        return [name.rstrip(b"\0") for name in names]

    def check(self):
        need(self.cut(4) == bytes([84, 82, 1, 0]))
        self.names(1, 0)
        counts = [self.byte(range(most + 1)) for most in MOST]
        self.byte([0])
        handlers = int.from_bytes(self.cut(2), "little")
        need(handlers <= 256)
        variables = self.names(counts[0] + counts[1], 4)
        need(len(set(variables)) == len(variables))
        need(not set(variables) & {b"left", b"in", b"closed"})
        for count in counts[2:]:
            names = self.names(count, 0)
            need(len(set(names)) == len(names))
        self.variables = list(range(counts[0])) + list(range(64, 64 + counts[1]))
        self.timers, self.signals, self.modes = counts[2:]
        events = set(self.switches) | {64 + place for place in self.switches} | set(range(168, 175))
        events |= set(range(128, 128 + self.timers)) | set(range(192, 192 + self.signals))
        for lowest in (144, 152, 160):
            events |= set(range(lowest, lowest + self.devices))
        for k in range(handlers):
            self.byte(events)
            self.byte(range(self.modes + 1))
            actions = self.byte(range(1, 33))
            self.byte([0])
            for number in range(actions):
                self.action()
        need(self.place == len(self.code))

    def action(self):
        if self.byte((0, 1)):
            self.expression()
        kind = self.byte(range(16))
        if kind in (2, 3):
            most, held = self.coils[self.byte(self.coils)]
            need(held or kind == 2)
            need(1 <= int.from_bytes(self.cut(2), "little") <= most)
        numbers = {1: self.variables, 4: self.coils, 5: range(self.shows), 7: self.lamps, 8: self.lamps,
                   9: range(self.modes), 10: range(self.modes), 11: range(self.timers), 12: range(self.timers),
                   13: range(self.signals), 14: range(self.devices)}
        if kind in numbers:
            self.byte(numbers[kind])
        if kind in (5, 6):
            self.byte(range(16))
        if kind in (0, 1, 11):
            self.expression()

    def expression(self):
        need(self.parts() <= 63)

    def parts(self):
        """How many parts there are; the code may nest deeper than Python does."""
        wanted = 1
        parts = 0
        while wanted:
            kind = self.byte(range(15))
            parts += 1
            wanted -= 1
            if kind == 0:
                self.cut(4)
            elif kind < 5:
                self.byte((self.variables, range(self.timers), range(self.modes), self.switches)[kind - 1])
            else:
                wanted += 1 if kind == 5 else 2
        return parts


def is_right(world, code):
    try:
        Oracle(world, code).check()
    except Wrong:
        return False
    return True
