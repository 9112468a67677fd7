"""A slow model of the words, built otherwise than the program, to hold answers against."""

import copy
from fractions import Fraction


def moved(station):
    """How much its clock is slowed, and its speed."""
    k = Fraction(station[2], station[3])
    return (k + 1 / k) / 2, (k * k - 1) / (k * k + 1)


def place_and_time(station, clock):
    """By speed and slowed clock, not by light's two numbers as the program has it."""
    slowed, speed = moved(station)
    return station[0] + slowed * clock, station[1] + slowed * speed * clock


def seen_by(station, point):
    """Own time, and own place with its sign, as coordinates are turned from one that rests to one that moves."""
    slowed, speed = moved(station)
    time, place = point[0] - station[0], point[1] - station[1]
    return slowed * (time - speed * place), slowed * (place - speed * time)


def hears(station, point):
    """The one clock's number at which the station is as far off as it is later."""
    t, x, p, q = station
    k = Fraction(p, q)
    found = set()
    for clock in ((point[0] - point[1] - t + x) * k, (point[0] + point[1] - t - x) / k):
        time, place = place_and_time(station, clock)
        if time - point[0] == abs(place - point[1]):
            found.add(clock)
    (clock,) = found
    return clock


def pair(number):
    return [number.numerator, number.denominator]


def counted(facts):
    return [len(facts)] + sorted(facts)


def in_range(n, d):
    return abs(n) <= 999 and 1 <= d <= 99


class Kept:
    """What one object has; taken back whole."""

    def __init__(self):
        self.stations, self.facts, self.letters, self.judged = [], [], [], []

    def point(self, i, clock):
        return place_and_time(self.stations[i], clock)

    def fact_point(self, f):
        return self.point(*self.facts[f])

    def comes(self, m):
        i, j, clock = self.letters[m]
        return hears(self.stations[j], self.point(i, clock))

    def contents(self):
        """Fill all letters from one another till no more comes in."""
        inside = [set() for m in self.letters]
        while True:
            more = [self.known_with(inside, i, clock) for i, j, clock in self.letters]
            if more == inside:
                return inside
            inside = more

    def known_with(self, inside, i, clock):
        facts = {f for f, (at, when) in enumerate(self.facts) if at == i and when <= clock}
        for m, (sender, receiver, sent) in enumerate(self.letters):
            if receiver == i and self.comes(m) <= clock:
                facts |= inside[m]
        return facts

    def known(self, i, clock):
        return self.known_with(self.contents(), i, clock)

    def could(self, i, clock):
        return {f for f in range(len(self.facts)) if hears(self.stations[i], self.fact_point(f)) <= clock}

    def knew(self, i, f):
        """The least of all clock's numbers at which anything comes, at which it's known; None if none is."""
        clocks = [when for at, when in self.facts if at == i]
        clocks += [self.comes(m) for m in range(len(self.letters)) if self.letters[m][1] == i]
        inside = self.contents()
        return min([clock for clock in clocks if f in self.known_with(inside, i, clock)], default=None)

    def judge(self, i, f, clock):
        if f in self.known(i, clock):
            return 2
        return 1 if f in self.could(i, clock) else 0


class Model:
    def __init__(self):
        self.kept, self.past = None, []

    def answer(self, row):
        name, told = row[0], row[1:]
        if name == "begin":
            self.kept, self.past = Kept(), []
            return [0]
        if self.kept is None:
            return [-11]
        if name == "back":
            return self.back()
        if name in ("station", "fact", "letter", "unfact", "unletter", "claim"):
            before = copy.deepcopy(self.kept)
            given = changed(self.kept, name, told)
            if given[0] >= 0:
                self.past.append(before)
                self.past = self.past[-10:]
            return given
        if name == "state":
            kept = self.kept
            return [len(kept.stations), len(kept.facts), len(kept.letters), len(self.past)]
        return looked(self.kept, name, told)

    def back(self):
        if not self.past:
            return [-6]
        self.kept = self.past.pop()
        return [len(self.past)]


def changed(kept, name, told):
    if name == "claim":
        i, f, n, d = told
        if i >= len(kept.stations) or f >= len(kept.facts):
            return [-2]
        if not in_range(n, d):
            return [-22]
        kept.judged.append(kept.judge(i, f, Fraction(n, d)))
        return kept.judged[-1:]
    if name in ("unfact", "unletter"):
        rows = kept.facts if name == "unfact" else kept.letters
        if not rows:
            return [-6]
        rows.pop()
        return [len(rows)]
    return made(kept, name, told)


def made(kept, name, told):
    """station, fact, letter"""
    if name == "station":
        if max(abs(told[0]), abs(told[1])) > 99 or min(told[2:]) < 1 or max(told[2:]) > 9:
            return [-22]
        rows, most, new = kept.stations, 4, told
    else:
        if max(told[:-2]) >= len(kept.stations):
            return [-2]
        if not in_range(*told[-2:]) or (name == "letter" and told[0] == told[1]):
            return [-22]
        rows, most = (kept.facts if name == "fact" else kept.letters), 6
        new = told[:-2] + (Fraction(*told[-2:]),)
    if len(rows) == most:
        return [-28]
    rows.append(new)
    return [len(rows) - 1]


KINDS = {"is_station": "i", "factis": "f", "letteris": "m", "where": "f", "comes": "m", "in_letter": "m",
         "known": "i", "could": "i", "first": "if", "knew": "if", "late": "if", "own": "if", "sooner": "iff",
         "heard": "ff", "never": "i", "book": ""}


def looked(kept, name, told):
    rows = {"i": kept.stations, "f": kept.facts, "m": kept.letters}
    if any(number >= len(rows[kind]) for number, kind in zip(told, KINDS[name])):
        return [-2]
    if name in ("known", "could") and not in_range(*told[1:]):
        return [-22]
    return globals()["look_" + name](kept, *told)


def look_is_station(kept, i):
    t, x, p, q = kept.stations[i]
    return [0, t, x] + pair(Fraction(p, q))


def look_factis(kept, f):
    return [kept.facts[f][0]] + pair(kept.facts[f][1])


def look_letteris(kept, m):
    return list(kept.letters[m][:2]) + pair(kept.letters[m][2])


def look_where(kept, f):
    time, place = kept.fact_point(f)
    return [0] + pair(time) + pair(place)


def look_comes(kept, m):
    return [0] + pair(kept.comes(m))


def look_in_letter(kept, m):
    return counted(kept.contents()[m])


def look_known(kept, i, n, d):
    return counted(kept.known(i, Fraction(n, d)))


def look_could(kept, i, n, d):
    return counted(kept.could(i, Fraction(n, d)))


def look_first(kept, i, f):
    return [0] + pair(hears(kept.stations[i], kept.fact_point(f)))


def look_knew(kept, i, f):
    clock = kept.knew(i, f)
    return [-33] if clock is None else [0] + pair(clock)


def look_late(kept, i, f):
    clock = kept.knew(i, f)
    return [-33] if clock is None else [0] + pair(clock - hears(kept.stations[i], kept.fact_point(f)))


def look_own(kept, i, f):
    time, place = seen_by(kept.stations[i], kept.fact_point(f))
    return [0 if place == 0 else 1 if place > 0 else 2] + pair(time) + pair(abs(place))


def look_sooner(kept, i, f, g):
    f_time, g_time = (seen_by(kept.stations[i], kept.fact_point(fact))[0] for fact in (f, g))
    return [0 if f_time < g_time else 1 if f_time == g_time else 2]


def look_heard(kept, f, g):
    f_time, f_place = kept.fact_point(f)
    g_time, g_place = kept.fact_point(g)
    off = abs(f_place - g_place)
    if off == 0 and f_time == g_time:
        return [1]
    if abs(f_time - g_time) < off:
        return [3]
    return [0 if f_time < g_time else 2]


def look_never(kept, i):
    return counted([f for f in range(len(kept.facts)) if kept.knew(i, f) is None])


def look_book(kept):
    return [len(kept.judged), kept.judged.count(0)]
