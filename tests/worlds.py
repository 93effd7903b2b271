"""Tables and books with what they tell written out beside them, so that tests need not ask the program for it."""

from tests.samples import BOOK, TABLE, data


class World:
    """Switches and lamps: places by names; coils: place, most, whether it has a hold; devices and shows in order."""

    def __init__(self, switches, lamps, coils, devices, shows, table, book):
        self.switches = switches
        self.lamps = lamps
        self.coils = coils
        self.devices = devices
        self.shows = shows
        self.table = data(table)
        self.book = data(book)


def full_world():
    """As many of everything as there may be; the names' order is not that of the places."""
    switches = {f"switch_{97 - k}": k for k in range(64)}
    lamps = {f"l{99 - k}": k for k in range(64)}
    coils = {f"coil{55 - k}": (k, 1023 - k, k % 2 == 1) for k in range(32)}
    devices = [f"device_{20 - k}" for k in range(8)]
    shows = [f"show{50 - k}" for k in range(32)]
    lines = ["table full balls 8"]
    lines += [f"switch {name} at {place} close 1 open 1" for name, place in switches.items()]
    lines += [f"lamp {name} at {place}" for name, place in lamps.items()]
    for name, (place, most, held) in coils.items():
        lines.append(f"coil {name} at {place} most {most} rest 1" + (" hold 1" if held else ""))
    # The last coils and switches, so that a device's number is neither's place.
    for number, name in enumerate(devices):
        lines.append(f"device {name} by {list(coils)[31 - number]} holds {list(switches)[63 - number]} drain")
    book = "".join(f"show {name} on l99\nstep 1\n" for name in shows)
    return World(switches, lamps, coils, devices, shows, "\n".join(lines) + "\n", book)


def bare_world():
    """As little as a right table may have, and a book of no show."""
    table = "table t balls 1\nswitch s at 7 close 1 open 1\ncoil c at 3 most 300 rest 1\ndevice d by c holds s drain\n"
    return World({"s": 7}, {}, {"c": (3, 300, False)}, ["d"], [], table, "")


def small_world():
    """A few of everything."""
    table = """table t balls 1
switch s at 1 close 1 open 1
switch u at 3 close 1 open 1
lamp l at 2
coil c at 0 most 300 rest 1
coil h at 4 most 2 rest 1 hold 1
device d by c holds s drain
"""
    return World({"s": 1, "u": 3}, {"l": 2}, {"c": (0, 300, False), "h": (4, 2, True)}, ["d"], ["w", "x"], table,
                 "show w on l\nstep 1\nshow x on l\nstep 1\n")


FULL = full_world()
SMALL = small_world()
BARE = bare_world()
DEMO = World(
    {"trough_a": 0, "trough_b": 1, "trough_c": 2, "bumper": 10, "lane": 11, "in": 63},
    {"red": 0, "green": 5, "blue": 63},
    {"trough": (0, 20, False), "pop": (1, 30, False), "flip": (7, 1023, True), "gate": (31, 255, True)},
    ["trough"], ["hello", "bye"], TABLE, BOOK)
