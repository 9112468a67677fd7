"""What holds, on many lines made from fixed seeds, against a slow model of the words."""

import random
import unittest
from fractions import Fraction

from asking import after, ask


def place_and_time(station, clock):
    """By speed and slowed clock, not by light's two numbers as the program has it."""
    t, x, p, q = station
    k = Fraction(p, q)
    slowed = (k + 1 / k) / 2
    speed = (k * k - 1) / (k * k + 1)
    return t + slowed * clock, x + slowed * speed * clock


def hears(station, point):
    """The one clock's number at which the station is as far off as it is later."""
    t, x, p, q = station
    k = Fraction(p, q)
    found = set()
    for clock in ((point[0] - point[1] - t + x) * k, (point[0] + point[1] - t - x) / k):
        time, place = place_and_time(station, clock)
        if time - point[0] == abs(place - point[1]):
            found.add(clock)
    (clock,) = found
    return clock


class Model:
    def __init__(self):
        self.stations, self.facts, self.letters = [], [], []

    def point(self, i, clock):
        return place_and_time(self.stations[i], clock)

    def comes(self, m):
        i, j, clock = self.letters[m]
        return hears(self.stations[j], self.point(i, clock))

    def contents(self):
        """Fill all letters from one another till no more comes in."""
        inside = [set() for m in self.letters]
        while True:
            more = [self.known(i, clock, inside) for i, j, clock in self.letters]
            if more == inside:
                return inside
            inside = more

    def known(self, i, clock, inside):
        facts = {f for f, (at, when) in enumerate(self.facts) if at == i and when <= clock}
        for m, (sender, receiver, sent) in enumerate(self.letters):
            if receiver == i and self.comes(m) <= clock:
                facts |= inside[m]
        return facts

    def judge(self, i, f, clock):
        if f in self.known(i, clock, self.contents()):
            return 2
        at, when = self.facts[f]
        return 1 if hears(self.stations[i], self.point(at, when)) <= clock else 0


def pair(number):
    return [number.numerator, number.denominator]


def model_look(model, name, number):
    table = {"is_station": model.stations, "factis": model.facts, "where": model.facts}
    if number >= len(table.get(name, model.letters)):
        return [-2]
    if name == "is_station":
        t, x, p, q = model.stations[number]
        return [0, t, x] + pair(Fraction(p, q))
    if name == "factis":
        return [model.facts[number][0]] + pair(model.facts[number][1])
    if name == "where":
        time, place = model.point(*model.facts[number])
        return [0] + pair(time) + pair(place)
    if name == "letteris":
        return list(model.letters[number][:2]) + pair(model.letters[number][2])
    if name == "comes":
        return [0] + pair(model.comes(number))
    inside = sorted(model.contents()[number])
    return [len(inside)] + inside


def in_range(n, d):
    return abs(n) <= 999 and 1 <= d <= 99


def model_made(model, row):
    """station, fact, letter"""
    name, told = row[0], row[1:]
    if name == "station":
        if max(abs(told[0]), abs(told[1])) > 99 or min(told[2:]) < 1 or max(told[2:]) > 9:
            return [-22]
        rows, most, new = model.stations, 4, told
    else:
        if max(told[:-2]) >= len(model.stations):
            return [-2]
        if not in_range(*told[-2:]) or (name == "letter" and told[0] == told[1]):
            return [-22]
        rows, most = (model.facts if name == "fact" else model.letters), 6
        new = told[:-2] + (Fraction(*told[-2:]),)
    if len(rows) == most:
        return [-28]
    rows.append(new)
    return [len(rows) - 1]


def model_answer(model, row):
    name, told = row[0], row[1:]
    if name in ("station", "fact", "letter"):
        return model_made(model, row)
    if name in ("unfact", "unletter"):
        rows = model.facts if name == "unfact" else model.letters
        if not rows:
            return [-6]
        rows.pop()
        return [len(rows)]
    if name == "claim":
        i, f, n, d = told
        if i >= len(model.stations) or f >= len(model.facts):
            return [-2]
        return [model.judge(i, f, Fraction(n, d))] if in_range(n, d) else [-22]
    return model_look(model, name, told[0])


def some_clock(chance):
    near = (chance.randint(-6, 6), chance.choice((1, 1, 1, 2, 3)))
    edge = (chance.choice((-1000, -999, 999, 1000)), chance.choice((0, 1, 99, 100)))
    return edge if chance.random() < 0.06 else near


def some_row(chance):
    name = chance.choice(("station", "fact", "fact", "letter", "letter", "letter", "unfact", "unletter", "claim",
                          "claim", "claim", "is_station", "factis", "letteris", "where", "comes", "in_letter",
                          "in_letter"))
    if name == "station":
        far = 3 if chance.random() < 0.9 else 101
        return (name, chance.randint(-far, far), chance.randint(-far, far),
                chance.choice((1, 1, 2, 3, 6, 9, 10)), chance.choice((1, 1, 2, 3, 4, 9, 0)))
    if name in ("unfact", "unletter"):
        return (name,) if chance.random() < 0.4 else ("in_letter", chance.randint(0, 6))
    if name == "fact":
        return (name, chance.randint(0, 4)) + some_clock(chance)
    if name == "letter":
        return (name, chance.randint(0, 3), chance.randint(0, 3)) + some_clock(chance)
    if name == "claim":
        return (name, chance.randint(0, 3), chance.randint(0, 6)) + some_clock(chance)
    return (name, chance.randint(0, 6))


def some_line(seed):
    chance = random.Random(seed)
    rows = [("station", 0, 0, 1, 1), ("station", 0, 0, 2, 1)] if seed % 2 else []
    return rows + [some_row(chance) for count in range(120)]


class AgainstTheModel(unittest.TestCase):
    def test_lines_of_all_calls(self):
        for seed in range(150):
            model = Model()
            rows = some_line(seed)
            given = after([], *rows)
            for number, row in enumerate(rows):
                self.assertEqual(given[number], model_answer(model, row), (seed, number, row))


def some_desk(seed):
    chance = random.Random(seed)
    rows = [("station", chance.randint(-2, 2), chance.randint(-2, 2), chance.randint(1, 3), chance.randint(1, 3))
            for count in range(chance.randint(2, 4))]
    stations = len(rows)
    for count in range(6):
        rows.append(("fact", chance.randrange(stations), chance.randint(-6, 6), chance.randint(1, 2)))
        sender, receiver = chance.sample(range(stations), 2)
        rows.append(("letter", sender, receiver, chance.randint(-6, 9), chance.randint(1, 2)))
    return rows, stations


class WhatHolds(unittest.TestCase):
    def test_who_knows_goes_on_knowing(self):
        for seed in range(60):
            rows, stations = some_desk(seed)
            for i in range(stations):
                for f in range(6):
                    claims = [("claim", i, f, n, 2) for n in range(-30, 31)]
                    judged = [answer[0] for answer in after(rows, *claims)]
                    self.assertEqual(judged, sorted(judged), (seed, i, f))

    def test_in_a_letter_is_known_where_it_has_come(self):
        for seed in range(60):
            rows, stations = some_desk(seed)
            for m in range(6):
                inside, sent, came = after(rows, ("in_letter", m), ("letteris", m), ("comes", m))
                self.assertEqual(inside[0], len(inside) - 1)
                self.assertEqual(inside[1:], sorted(set(inside[1:])))
                claims = [("claim", i, f, n, d) for f in inside[1:]
                          for i, n, d in ((sent[0], *sent[2:]), (sent[1], *came[1:]))]
                self.assertEqual(after(rows, *claims), [[2]] * len(claims), (seed, m))

    def test_not_known_ahead_of_where_light_can_bring_it(self):
        for seed in range(60):
            rows, stations = some_desk(seed)
            told = [row[1:] for row in rows if row[0] == "station"]
            for f in range(6):
                point = after(rows, ("where", f))[0]
                point = (Fraction(*point[1:3]), Fraction(*point[3:5]))
                for i in range(stations):
                    heard = hears(told[i], point)
                    claims = [("claim", i, f, n, 2) for n in range(-30, 31)]
                    for row, answer in zip(claims, after(rows, *claims)):
                        self.assertEqual(answer == [0], Fraction(row[3], 2) < heard, (seed, row))

    def test_refused_and_looking_change_nothing(self):
        for seed in range(40):
            rows = some_line(seed)
            given = after([], *rows)
            looks = ("is_station", "factis", "letteris", "where", "comes", "in_letter")
            kept = [k for k, row in enumerate(rows) if given[k][0] >= 0 and row[0] not in looks]
            self.assertEqual(ask(("begin",), *[rows[k] for k in kept])[1:], [given[k] for k in kept], seed)


if __name__ == "__main__":
    unittest.main()
