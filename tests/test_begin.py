import unittest

from asking import REST, RIGHT, ask
from whohearddesk.changes import begin, claim, fact, letter, station, unfact, unletter
from whohearddesk.desk import Desk
from whohearddesk.looks import comes, factis, in_letter, is_station, letteris, where


class Begin(unittest.TestCase):
    def test_answers_0(self):
        self.assertEqual(ask(("begin",), ("begin",)), [[0], [0]])

    def test_nothing_is_there(self):
        self.assertEqual(ask(("begin",), ("is_station", 0), ("factis", 0), ("letteris", 0), ("unfact",), ("unletter",)),
                         [[0], [-2], [-2], [-2], [-6], [-6]])

    def test_again_clears_all(self):
        given = ask(("begin",), REST, RIGHT, ("fact", 1, 1, 1), ("letter", 1, 0, 1, 1), ("begin",),
                    ("is_station", 0), ("factis", 0), ("letteris", 0), ("unfact",), ("unletter",), RIGHT)
        self.assertEqual(given[5:], [[0], [-2], [-2], [-2], [-6], [-6], [0]])

    def test_again_makes_room(self):
        rows = [("begin",)] + [REST] * 4 + [("fact", 0, 0, 1)] * 6 + [("letter", 0, 1, 0, 1)] * 6
        given = ask(*rows, *rows)
        self.assertEqual(given, given[:17] * 2)
        self.assertEqual(given[16], [5])

    def test_again_clears_claims_and_the_past(self):
        desk = begun_desk()
        claim(desk, 0, 0, -1, 1)
        begin(desk)
        self.assertEqual((desk.state.claims, desk.state.impossible, desk.past), (0, 0, []))


def begun_desk():
    desk = Desk()
    begin(desk)
    station(desk, 0, 0, 1, 1)
    station(desk, 0, 0, 2, 1)
    fact(desk, 0, 1, 1)
    letter(desk, 0, 1, 1, 1)
    return desk


def picture(state):
    """All of a state by value, so that two can be held against one another."""
    return ([(s.time, s.place, s.factor) for s in state.stations],
            [(f.station, f.when, f.point.minus, f.point.plus) for f in state.facts],
            [(m.sender, m.receiver, m.sent, m.arrives) for m in state.letters],
            state.claims, state.impossible)


class Changes(unittest.TestCase):
    def test_each_change_keeps_what_was_ahead_of_it(self):
        calls = (lambda d: station(d, 1, 2, 3, 4), lambda d: fact(d, 1, 2, 3), lambda d: letter(d, 1, 0, 2, 3),
                 unfact, unletter, lambda d: claim(d, 1, 0, 2, 1), lambda d: claim(d, 1, 0, 1, 1))
        for call in calls:
            desk = begun_desk()
            was = picture(desk.state)
            self.assertEqual(len(desk.past), 4)
            call(desk)
            self.assertEqual(len(desk.past), 5)
            self.assertEqual(picture(desk.past[-1]), was)
            self.assertNotEqual(picture(desk.state), was)

    def test_the_last_10_are_kept(self):
        desk = begun_desk()
        for n in range(6):
            claim(desk, 0, 0, n, 1)
        self.assertEqual(len(desk.past), 10)
        claim(desk, 0, 0, 0, 1)
        self.assertEqual(len(desk.past), 10)
        self.assertEqual(len(desk.past[0].stations), 1)
        self.assertEqual([s.claims for s in desk.past], [0, 0, 0, 0, 1, 2, 3, 4, 5, 6])

    def test_refused_calls_and_looks_are_no_changes(self):
        desk = begun_desk()
        was = picture(desk.state)
        refused = (station(desk, 100, 0, 1, 1), fact(desk, 2, 0, 1), fact(desk, 0, 0, 0), letter(desk, 0, 0, 0, 1),
                   letter(desk, 0, 2, 0, 1), claim(desk, 0, 1, 0, 1), claim(desk, 0, 0, 1000, 1))
        for answer in refused:
            self.assertEqual(len(answer), 1)
            self.assertLess(answer[0], 0)
        for look in (is_station, factis, letteris, where, comes, in_letter):
            look(desk, 0)
            look(desk, 9)
        self.assertEqual(picture(desk.state), was)
        self.assertEqual(len(desk.past), 4)

    def test_refused_for_want_or_for_room_are_no_changes(self):
        desk = Desk()
        begin(desk)
        self.assertEqual((unfact(desk), unletter(desk), desk.past), ([-6], [-6], []))
        for n in range(4):
            station(desk, n, 0, 1, 1)
        self.assertEqual((station(desk, 0, 0, 1, 1), len(desk.past)), ([-28], 4))


class Counting(unittest.TestCase):
    def test_claims_and_those_that_cannot_have_been(self):
        desk = begun_desk()
        unletter(desk)
        for n, verdict, counts in ((1, 0, (1, 1)), (2, 1, (2, 1)), (0, 0, (3, 2))):
            self.assertEqual(claim(desk, 1, 0, n, 1), [verdict])
            self.assertEqual((desk.state.claims, desk.state.impossible), counts)
        claim(desk, 0, 0, 1, 1)
        self.assertEqual((desk.state.claims, desk.state.impossible), (4, 2))

    def test_a_refused_claim_is_not_counted(self):
        desk = begun_desk()
        claim(desk, 0, 0, 0, 0)
        claim(desk, 0, 1, 0, 1)
        self.assertEqual((desk.state.claims, desk.state.impossible), (0, 0))

    def test_counted_as_judged_then(self):
        desk = begun_desk()
        claim(desk, 1, 0, 1, 1)
        unfact(desk)
        fact(desk, 1, 1, 1)
        self.assertEqual((desk.state.claims, desk.state.impossible), (1, 1))


if __name__ == "__main__":
    unittest.main()
