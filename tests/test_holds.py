"""What holds, a to f, on stations that stand still, move alike, meet, and on some made from fixed seeds."""

import unittest
from fractions import Fraction

from asking import after, ask, look
from desks import LOOKS, STILL, all_desks, every_look, letters_of, some_desk, some_line, stations_of
from model import hears

DESKS = all_desks(20)
FACTS = range(6)
CLOCKS = [(n, 2) for n in range(-30, 31)] + [(40, 1), (100, 1), (998, 1), (999, 1), (-999, 1), (1, 99), (-1, 99)]
CLOCKS.sort(key=lambda clock: Fraction(*clock))


def at_all_clocks(rows, name, i):
    """The facts that known or could tells at each of CLOCKS."""
    given = look(rows, [(name, i, n, d) for n, d in CLOCKS])
    return [set(answer[1:]) for answer in given]


class Nobody(unittest.TestCase):
    """a"""

    def test_what_is_known_could_be(self):
        for number, rows in enumerate(DESKS):
            for i in stations_of(rows):
                for known, could in zip(at_all_clocks(rows, "known", i), at_all_clocks(rows, "could", i)):
                    self.assertLessEqual(known, could, (number, i))

    def test_what_could_be_is_what_light_has_brought(self):
        for number, rows in enumerate(DESKS):
            told = [row[1:] for row in rows if row[0] == "station"]
            where = look(rows, [("where", f) for f in FACTS])
            points = [(Fraction(*answer[1:3]), Fraction(*answer[3:5])) for answer in where]
            for i in stations_of(rows):
                heard = [hears(told[i], point) for point in points]
                for clock, could in zip(CLOCKS, at_all_clocks(rows, "could", i)):
                    self.assertEqual(could, {f for f in FACTS if heard[f] <= Fraction(*clock)}, (number, i, clock))

    def test_claims_of_what_cannot_have_been_heard_of(self):
        for number, rows in enumerate(DESKS):
            for i in stations_of(rows):
                sets = list(zip(at_all_clocks(rows, "known", i), at_all_clocks(rows, "could", i)))
                for f in FACTS:
                    judged = after(rows, *[("claim", i, f, n, d) for n, d in CLOCKS])
                    right = [[2] if f in known else [1] if f in could else [0] for known, could in sets]
                    self.assertEqual(judged, right, (number, i, f))

    def test_more_letters_do_not_change_what_could_be(self):
        for stations in (STILL, DESKS[3][:4]):
            facts = [("fact", f % 4, f, 1) for f in FACTS]
            letters = [("letter", m % 4, (m + 1) % 4, m, 1) for m in range(6)]
            for i in range(4):
                self.assertEqual(at_all_clocks(stations + facts, "could", i),
                                 at_all_clocks(stations + facts + letters, "could", i))


class GoesOn(unittest.TestCase):
    """b"""

    def test_who_knows_goes_on_knowing(self):
        for number, rows in enumerate(DESKS):
            for i in stations_of(rows):
                for name in ("known", "could"):
                    told = at_all_clocks(rows, name, i)
                    for before, behind in zip(told, told[1:]):
                        self.assertLessEqual(before, behind, (number, i, name))

    def test_in_a_letter_is_known_where_it_is_sent_and_where_it_has_come(self):
        for number, rows in enumerate(DESKS):
            for m in letters_of(rows):
                inside, sent, came = look(rows, [("in_letter", m), ("letteris", m), ("comes", m)])
                self.assertEqual(inside[0], len(inside) - 1)
                self.assertEqual(inside[1:], sorted(set(inside[1:])))
                self.assertEqual(look(rows, [("known", sent[0], *sent[2:])]), [inside])
                if abs(came[1]) <= 999 and came[2] <= 99:
                    known = look(rows, [("known", sent[1], *came[1:])])[0]
                    self.assertLessEqual(set(inside[1:]), set(known[1:]), (number, m))
                for knew in look(rows, [("knew", sent[1], f) for f in inside[1:]]):
                    self.assertEqual(knew[0], 0, (number, m))
                    self.assertLessEqual(Fraction(*knew[1:]), Fraction(*came[1:]), (number, m))


class KnownFirst(unittest.TestCase):
    """c"""

    def test_known_from_then_on_and_not_sooner(self):
        for number, rows in enumerate(DESKS):
            for i in stations_of(rows):
                known = at_all_clocks(rows, "known", i)
                for f in FACTS:
                    knew = look(rows, [("knew", i, f)])[0]
                    right = [knew != [-33] and Fraction(*knew[1:]) <= Fraction(*clock) for clock in CLOCKS]
                    self.assertEqual([f in facts for facts in known], right, (number, i, f))

    def test_known_at_the_very_number(self):
        for number, rows in enumerate(DESKS):
            for i in stations_of(rows):
                for f in FACTS:
                    knew = look(rows, [("knew", i, f)])[0]
                    if knew != [-33] and abs(knew[1]) <= 499 and knew[2] <= 9:
                        n, d = knew[1], knew[2]
                        then, before = look(rows, [("known", i, n, d), ("known", i, 2 * n - 1, 2 * d)])
                        self.assertIn(f, then[1:], (number, i, f))
                        self.assertNotIn(f, before[1:], (number, i, f))

    def test_never_is_what_has_no_first(self):
        for number, rows in enumerate(DESKS):
            for i in stations_of(rows):
                never = look(rows, [("never", i)])[0]
                knew = look(rows, [("knew", i, f) for f in FACTS])
                late = look(rows, [("late", i, f) for f in FACTS])
                right = [f for f in FACTS if knew[f] == [-33]]
                self.assertEqual(never, [len(right)] + right, (number, i))
                self.assertEqual([f for f in FACTS if late[f] == [-33]], right, (number, i))

    def test_never_sooner_than_it_could_be(self):
        for number, rows in enumerate(DESKS):
            for i in stations_of(rows):
                for f in FACTS:
                    first, knew, late = look(rows, [(name, i, f) for name in ("first", "knew", "late")])
                    if knew != [-33]:
                        self.assertEqual(Fraction(*late[1:]), Fraction(*knew[1:]) - Fraction(*first[1:]),
                                         (number, i, f))
                        self.assertGreaterEqual(late[1], 0, (number, i, f))


class SoonerForAll(unittest.TestCase):
    """d"""

    def test_what_can_have_been_heard_of(self):
        seen = set()
        for number, rows in enumerate(DESKS):
            for f in FACTS:
                for g in FACTS:
                    heard, back = look(rows, [("heard", f, g), ("heard", g, f)])
                    seen.add(heard[0])
                    self.assertEqual(back, [{0: 2, 1: 1, 2: 0, 3: 3}[heard[0]]], (number, f, g))
                    if heard != [3]:
                        for sooner in look(rows, [("sooner", i, f, g) for i in stations_of(rows)]):
                            self.assertEqual(sooner, heard, (number, f, g))
        self.assertEqual(seen, {0, 1, 2, 3})

    def test_sooner_as_own_times_are(self):
        for number, rows in enumerate(DESKS):
            for i in stations_of(rows):
                own = [Fraction(*answer[1:3]) for answer in look(rows, [("own", i, f) for f in FACTS])]
                pairs = [(f, g) for f in FACTS for g in FACTS]
                given = look(rows, [("sooner", i, f, g) for f, g in pairs])
                right = [[(own[f] >= own[g]) + (own[f] > own[g])] for f, g in pairs]
                self.assertEqual(given, right, (number, i))


class Claims(unittest.TestCase):
    """e"""

    def test_no_more_than_were_made(self):
        for number, rows in enumerate(DESKS):
            asked = [("claim", i, f, n, 2) for i in stations_of(rows) for f in FACTS for n in (-40, 0, 9, 90)]
            mixed = [row for claim in asked for row in (claim, ("book",))]
            given = after(rows, *mixed)
            made = impossible = 0
            for judged, book in zip(given[::2], given[1::2]):
                made += 1
                impossible += judged == [0]
                self.assertEqual(book, [made, impossible], number)
                self.assertLessEqual(book[1], book[0])


CHANGES = [("station", 1, 1, 2, 3), ("fact", 0, 1, 2), ("letter", 1, 0, 3, 2), ("unfact",), ("unletter",),
           ("claim", 0, 0, -9, 1), ("claim", 0, 0, 99, 1)]


class TakenBack(unittest.TestCase):
    """f"""

    def test_all_is_as_it_was(self):
        for number, rows in enumerate(DESKS):
            looks = every_look(rows)
            right = look(rows, looks)
            for change in CHANGES:
                changed, back, state = after(rows, change, ("back",), ("state",))
                if changed[0] >= 0:
                    self.assertEqual(back, [9], (number, change))
                    self.assertEqual(look(rows + [change, ("back",)], looks), right, (number, change))
                    self.assertEqual(state[:3], look(rows, [("state",)])[0][:3])

    def test_each_of_ten_steps_back(self):
        steps = [CHANGES[number % len(CHANGES)] for number in (1, 2, 5, 0, 1, 3, 2, 4, 6, 5)]
        start = [("station", 0, 0, 1, 1), ("station", 0, 2, 1, 2), ("fact", 1, 0, 1), ("letter", 1, 0, 0, 1)]
        self.assertTrue(all(answer[0] >= 0 for answer in after(start, *steps)))
        looks = every_look(start)
        for gone in range(11):
            taken = look(start + steps + [("back",)] * gone, looks)
            self.assertEqual(taken, look(start + steps[:10 - gone], looks), gone)

    def test_refused_and_looking_change_nothing(self):
        for seed in range(40):
            rows = some_line(seed, 256)
            given = ask(*rows)
            kept = [k for k, row in enumerate(rows) if given[k][0] >= 0 and row[0] not in LOOKS]
            self.assertEqual(ask(*[rows[k] for k in kept]), [given[k] for k in kept], seed)

    def test_looks_twice_and_backwards(self):
        for seed in range(10):
            rows = some_desk(seed)
            looks = every_look(rows)
            once = look(rows, looks)
            self.assertEqual(look(rows, looks + looks), once + once)
            self.assertEqual(look(rows, looks[::-1]), once[::-1])


if __name__ == "__main__":
    unittest.main()
