"""Rules made up at random (the same ones each time), as a text and as the bytes that the document gives for it."""

import random

LETTERS = "abcdefghijklmnopqrstuvwxyz"
BOUNDS = (0, 1, -1, 9, 10, 255, 256, -256, 65535, 65536, 2147483647, -2147483648)
SIGNS = ("+", "-", "*", "/", "%", "<", "=", "&", "|")
PLAIN_EVENTS = {"coin": 168, "start": 169, "warning": 170, "tilt": 171, "ball": 172, "lost": 173, "back": 174}
MOST = {"var": 64, "mine": 32, "timer": 16, "signal": 64, "mode": 15}


def low_first(number, count):
    return list((number % 256 ** count).to_bytes(count, "little"))


def padded(name):
    return list(name.encode().ljust(12, b"\0"))


class Made:
    """names: of each sort a list; lines: the text's; code: its bytes; handlers: how many."""

    def __init__(self, world, seed, most=None, handlers=3, actions=4, parts=9):
        self.world = world
        self.random = random.Random(seed)
        self.parts = parts
        self.handlers = handlers
        most = MOST if most is None else most
        self.counts = {sort: self.random.randint(0, most[sort]) for sort in MOST}
        self.taken = ["left", "in", "closed"]
        self.names = {sort: [] for sort in MOST}
        name = self.new_name([])
        self.lines = [f"rules {name}"]
        self.code = [84, 82, 1, 0] + padded(name) + list(self.counts.values()) + [0] + low_first(handlers, 2)
        for sort in MOST:
            for number in range(self.counts[sort]):
                self.declare(sort)
        for number in range(handlers):
            self.handler(self.random.randint(1, actions))
        self.text = list(("\n".join(self.lines) + "\n").encode())

    def new_name(self, taken):
        while True:
            length = self.random.choice((1, 2, 5, 12))
            name = self.random.choice(LETTERS)
            name += "".join(self.random.choice(LETTERS + "0123456789_") for k in range(length - 1))
            if self.random.random() < 0.1:
                name = self.random.choice(("do", "when", "in", "left", "closed", "on", "stop", "rules"))
            if name not in taken:
                return name

    def declare(self, sort):
        if sort in ("var", "mine"):
            name = self.new_name(self.taken)
            self.taken.append(name)
            start = self.number()
            self.lines.append(f"{sort} {name} {start}")
            self.code += padded(name) + low_first(start, 4)
        else:
            name = self.new_name(self.names[sort])
            self.lines.append(f"{sort} {name}")
            self.code += padded(name)
        self.names[sort].append(name)

    def number(self):
        if self.random.random() < 0.5:
            return self.random.choice(BOUNDS)
        return self.random.randint(-2147483648, 2147483647)

    def one_of(self, names):
        """A name's number and the name."""
        number = self.random.randrange(len(names))
        return number, names[number]

    def placed(self, places):
        name = self.random.choice(list(places))
        return places[name], name

    def variable(self):
        names = [(k, name) for k, name in enumerate(self.names["var"])]
        names += [(64 + k, name) for k, name in enumerate(self.names["mine"])]
        return self.random.choice(names)

    def handler(self, actions):
        event, words = self.event()
        mode = 0
        if self.names["mode"] and self.random.random() < 0.5:
            number, name = self.one_of(self.names["mode"])
            mode = number + 1
            words += f" in {name}"
        self.lines.append(f"on {words}")
        self.code += [event, mode, actions, 0]
        for number in range(actions):
            self.action()

    def event(self):
        choices = [(number, word) for word, number in PLAIN_EVENTS.items()]
        for lowest, word, names in ((144, "gained", self.world.devices), (152, "parted", self.world.devices),
                                    (160, "stuck", self.world.devices), (128, "ended", self.names["timer"]),
                                    (192, "sent", self.names["signal"])):
            if names:
                number, name = self.one_of(names)
                choices.append((lowest + number, f"{word} {name}"))
        for lowest, word in ((0, "closed"), (64, "opened")):
            place, name = self.placed(self.world.switches)
            choices.append((lowest + place, f"{word} {name}"))
        return self.random.choice(choices)

    def action(self):
        words = "do "
        self.code.append(0)
        if self.random.random() < 0.4:
            self.code[-1] = 1
            guard = self.expression()
            words = f"when {guard} do "
        kinds = [(self.score, 1), (self.assign, self.names["var"] + self.names["mine"]), (self.fire, 1),
                 (self.hold, [1 for coil in self.world.coils.values() if coil[2]]), (self.release, 1),
                 (self.show, self.world.shows), (self.hide, 1), (self.lamp, self.world.lamps),
                 (self.mode, self.names["mode"]), (self.run, self.names["timer"]), (self.halt, self.names["timer"]),
                 (self.send, self.names["signal"]), (self.eject, 1), (self.stop, 1)]
        self.lines.append(words + self.random.choice([kind for kind, there in kinds if there])())

    def score(self):
        self.code.append(0)
        return f"score {self.expression()}"

    def assign(self):
        number, name = self.variable()
        self.code += [1, number]
        return f"set {name} {self.expression()}"

    def coil_time(self, kind, coils):
        name = self.random.choice(coils)
        place, most, held = self.world.coils[name]
        time = self.random.choice((1, most, self.random.randint(1, most)))
        self.code += [kind, place] + low_first(time, 2)
        return f"{name} {time}"

    def fire(self):
        return "fire " + self.coil_time(2, list(self.world.coils))

    def hold(self):
        return "hold " + self.coil_time(3, [name for name, coil in self.world.coils.items() if coil[2]])

    def release(self):
        name = self.random.choice(list(self.world.coils))
        self.code += [4, self.world.coils[name][0]]
        return f"release {name}"

    def show(self):
        number, name = self.one_of(self.world.shows)
        level = self.random.randint(0, 15)
        self.code += [5, number, level]
        return f"show {name} {level}"

    def hide(self):
        level = self.random.randint(0, 15)
        self.code += [6, level]
        return f"hide {level}"

    def lamp(self):
        place, name = self.placed(self.world.lamps)
        kind, word = self.random.choice(((7, "light"), (8, "dark")))
        self.code += [kind, place]
        return f"{word} {name}"

    def mode(self):
        number, name = self.one_of(self.names["mode"])
        kind, word = self.random.choice(((9, "begin"), (10, "finish")))
        self.code += [kind, number]
        return f"{word} {name}"

    def run(self):
        number, name = self.one_of(self.names["timer"])
        self.code += [11, number]
        return f"run {name} {self.expression()}"

    def halt(self):
        number, name = self.one_of(self.names["timer"])
        self.code += [12, number]
        return f"halt {name}"

    def send(self):
        number, name = self.one_of(self.names["signal"])
        self.code += [13, number]
        return f"send {name}"

    def eject(self):
        number, name = self.one_of(self.world.devices)
        self.code += [14, number]
        return f"eject {name}"

    def stop(self):
        self.code.append(15)
        return "stop"

    def expression(self):
        """The words of an expression of at most so many parts."""
        return " ".join(self.some_parts(self.random.randint(1, self.parts)))

    def some_parts(self, parts):
        if parts == 1:
            return self.leaf()
        if parts == 2 or self.random.random() < 0.2:
            self.code.append(5)
            return ["!"] + self.some_parts(parts - 1)
        kind = self.random.randrange(9)
        self.code.append(6 + kind)
        left = self.random.randint(1, parts - 2)
        return [SIGNS[kind]] + self.some_parts(left) + self.some_parts(parts - 1 - left)

    def leaf(self):
        choices = ["number", "closed"]
        choices += ["variable"] if self.names["var"] + self.names["mine"] else []
        choices += ["left"] if self.names["timer"] else []
        choices += ["in"] if self.names["mode"] else []
        choice = self.random.choice(choices)
        if choice == "number":
            number = self.number()
            self.code += [0] + low_first(number, 4)
            return [str(number)]
        if choice == "variable":
            number, name = self.variable()
            self.code += [1, number]
            return [name]
        if choice == "closed":
            number, name = self.placed(self.world.switches)
        else:
            number, name = self.one_of(self.names["timer" if choice == "left" else "mode"])
        self.code += [{"left": 2, "in": 3, "closed": 4}[choice], number]
        return [choice, name]
