"""Objects to try what holds on, and lines of calls made from fixed seeds."""

import random

STILL = [("station", 0, 0, 1, 1), ("station", 0, 4, 1, 1), ("station", -2, -3, 1, 1), ("station", 1, 9, 1, 1)]
ALIKE = [("station", 0, 0, 3, 2), ("station", 0, 4, 3, 2), ("station", -2, -3, 3, 2), ("station", 1, 9, 3, 2)]
MEETING = [("station", 0, 0, 1, 1), ("station", 0, 0, 2, 1), ("station", 0, 0, 1, 2), ("station", 0, 0, 3, 1)]

FACTS = [("fact", 0, -1, 1), ("fact", 1, 0, 1), ("fact", 2, 3, 2), ("fact", 3, -7, 3), ("fact", 0, 4, 1),
         ("fact", 1, 5, 1)]

NO_LETTERS = []
THERE_AND_BACK = [("letter", 0, 1, 0, 1), ("letter", 1, 0, 0, 1), ("letter", 2, 3, 2, 1), ("letter", 3, 2, 9, 1),
                  ("letter", 1, 2, 8, 1), ("letter", 2, 1, 30, 1)]
ONE_BEHIND_ANOTHER = [("letter", 0, 1, 1, 1), ("letter", 1, 2, 12, 1), ("letter", 2, 3, 50, 1),
                      ("letter", 3, 0, 150, 1), ("letter", 0, 2, 500, 1), ("letter", 2, 1, 999, 1)]


def some_desk(seed):
    chance = random.Random(seed)
    rows = [("station", chance.randint(-2, 2), chance.randint(-2, 2), chance.randint(1, 3), chance.randint(1, 3))
            for count in range(chance.randint(2, 4))]
    stations = len(rows)
    for count in range(6):
        rows.append(("fact", chance.randrange(stations), chance.randint(-6, 6), chance.randint(1, 2)))
        sender, receiver = chance.sample(range(stations), 2)
        rows.append(("letter", sender, receiver, chance.randint(-6, 9), chance.randint(1, 2)))
    return rows


def all_desks(seeds):
    desks = [stations + FACTS + letters for stations in (STILL, ALIKE, MEETING)
             for letters in (NO_LETTERS, THERE_AND_BACK, ONE_BEHIND_ANOTHER)]
    return desks + [some_desk(seed) for seed in range(seeds)]


def stations_of(rows):
    return range(len([row for row in rows if row[0] == "station"]))


def letters_of(rows):
    return range(len([row for row in rows if row[0] == "letter"]))


def every_look(rows):
    """Each call that looks, with all that there is and one beyond."""
    stations, facts, letters = range(len(stations_of(rows)) + 1), range(7), range(len(letters_of(rows)) + 1)
    looks = [("book",)]
    looks += [(name, i) for name in ("is_station", "never") for i in stations]
    looks += [(name, f) for name in ("factis", "where") for f in facts]
    looks += [(name, m) for name in ("letteris", "comes", "in_letter") for m in letters]
    looks += [(name, i, n, 2) for name in ("known", "could") for i in stations for n in range(-14, 40, 3)]
    looks += [(name, i, f) for name in ("first", "knew", "late", "own") for i in stations for f in facts]
    looks += [("heard", f, g) for f in facts for g in facts]
    return looks + [("sooner", i, f, g) for i in stations for f in facts for g in facts]


def some_clock(chance):
    near = (chance.randint(-6, 6), chance.choice((1, 1, 1, 2, 3)))
    edge = (chance.choice((-1000, -999, 999, 1000)), chance.choice((0, 1, 99, 100)))
    return edge if chance.random() < 0.06 else near


OFTEN = ("station", "fact", "fact", "fact", "letter", "letter", "letter", "claim", "claim", "back", "unfact",
         "unletter")
LOOKS = ("is_station", "factis", "letteris", "where", "comes", "in_letter", "known", "could", "first", "knew", "late",
         "own", "sooner", "heard", "never", "book", "state")


def some_station(chance):
    far = 3 if chance.random() < 0.9 else 101
    return ("station", chance.randint(-far, far), chance.randint(-far, far),
            chance.choice((1, 1, 2, 3, 6, 9, 10)), chance.choice((1, 1, 2, 3, 4, 9, 0)))


def some_row(chance):
    name = chance.choice(OFTEN + LOOKS)
    station, fact, letter = (lambda: chance.randint(0, 4)), (lambda: chance.randint(0, 6)), chance.randint(0, 6)
    if name == "station":
        return some_station(chance)
    if name in ("unfact", "unletter", "back") and chance.random() < 0.5:
        return ("state",)
    if name in ("unfact", "unletter", "back", "book", "state"):
        return (name,)
    if name in ("fact", "known", "could"):
        return (name, station()) + some_clock(chance)
    if name == "letter":
        return (name, chance.randint(0, 3), chance.randint(0, 3)) + some_clock(chance)
    if name == "claim":
        return (name, station(), fact()) + some_clock(chance)
    if name in ("first", "knew", "late", "own"):
        return (name, station(), fact())
    if name == "sooner":
        return (name, station(), fact(), fact())
    if name == "heard":
        return (name, fact(), fact())
    if name in ("is_station", "never"):
        return (name, station())
    return (name, letter)


def some_line(seed, length):
    """A line of so many calls, a begin among the first ones, and now and then one more."""
    chance = random.Random(seed)
    rows = [some_row(chance) for count in range(seed % 3)] + [("begin",)]
    if seed % 2:
        rows += [("station", 0, 0, 1, 1), ("station", 0, 0, 2, 1)]
    while len(rows) < length:
        rows.append(("begin",) if chance.random() < 0.008 else some_row(chance))
    return rows
