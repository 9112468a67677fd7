import unittest

from asking import REST, RIGHT, after, ask

BACK = ("back",)
STATE = ("state",)
BOOK = ("book",)
TWO = (REST, RIGHT)


def stations_and_facts(facts):
    return [REST] + [("fact", 0, f, 1) for f in range(facts)]


class State(unittest.TestCase):
    def test_nothing_behind_a_begin(self):
        self.assertEqual(ask(("begin",), STATE), [[0], [0, 0, 0, 0]])

    def test_stations_facts_letters_changes(self):
        given = [REST, RIGHT, ("fact", 0, 1, 1), ("letter", 0, 1, 1, 1), ("fact", 1, 1, 1), ("fact", 1, 2, 1)]
        self.assertEqual(after(given, STATE), [[2, 3, 1, 6]])

    def test_each_change_counts_as_one(self):
        given = TWO + (("fact", 0, 1, 1), ("letter", 0, 1, 1, 1))
        for row, state in ((REST, [3, 1, 1, 5]), (("fact", 0, 2, 1), [2, 2, 1, 5]),
                           (("letter", 1, 0, 1, 1), [2, 1, 2, 5]), (("unfact",), [2, 0, 1, 5]),
                           (("unletter",), [2, 1, 0, 5]),
                           (("claim", 0, 0, 1, 1), [2, 1, 1, 5]), (("claim", 0, 0, 0, 1), [2, 1, 1, 5])):
            self.assertEqual(after(given, row, STATE)[1], state, row)

    def test_full(self):
        rows = [REST] * 4 + [("fact", 0, 0, 1)] * 6 + [("letter", 0, 1, 0, 1)] * 6
        self.assertEqual(after(rows, STATE), [[4, 6, 6, 10]])

    def test_what_is_refused_and_looking_is_no_change(self):
        given = TWO + (("fact", 0, 1, 1),)
        idle = [("station", 100, 0, 1, 1), ("fact", 2, 0, 1), ("fact", 0, 0, 0), ("letter", 0, 0, 0, 1), ("unletter",),
                ("claim", 0, 1, 0, 1), ("claim", 0, 0, 1000, 1), ("is_station", 0), ("factis", 0), ("letteris", 0),
                ("where", 0), ("comes", 0), ("in_letter", 0), ("known", 0, 1, 1), ("could", 0, 1, 1), ("first", 1, 0),
                ("knew", 0, 0), ("knew", 1, 0), ("late", 0, 0), ("own", 1, 0), ("sooner", 0, 0, 0), ("heard", 0, 0),
                ("never", 1), BOOK, STATE]
        for row in idle:
            self.assertEqual(after(given, row, STATE, BOOK)[1:], [[2, 1, 0, 3], [0, 0]], row)


class Back(unittest.TestCase):
    def test_no_change(self):
        self.assertEqual(ask(("begin",), BACK, STATE, BACK), [[0], [-6], [0, 0, 0, 0], [-6]])

    def test_each_change(self):
        given = TWO + (("fact", 0, 1, 1), ("letter", 0, 1, 1, 1))
        for row in (REST, ("fact", 0, 2, 1), ("letter", 1, 0, 1, 1), ("unfact",), ("unletter",),
                    ("claim", 0, 0, 1, 1), ("claim", 0, 0, 0, 1)):
            self.assertEqual(after(given, row, BACK, STATE, BOOK, ("factis", 0), ("letteris", 0),
                                   ("is_station", 1))[1:],
                             [[4], [2, 1, 1, 4], [0, 0], [0, 1, 1], [0, 1, 1, 1], [0, 0, 0, 2, 1]], row)

    def test_till_nothing_is_left(self):
        given = TWO + (("fact", 0, 1, 1),)
        self.assertEqual(after(given, BACK, STATE, BACK, STATE, BACK, STATE, BACK, STATE),
                         [[2], [2, 0, 0, 2], [1], [1, 0, 0, 1], [0], [0, 0, 0, 0], [-6], [0, 0, 0, 0]])

    def test_ten_changes_and_back_after_each(self):
        given = after([REST, ("fact", 0, 0, 1)] + [("claim", 0, 0, 0, 1)] * 8, STATE, *[BACK, STATE, BOOK] * 11)
        self.assertEqual(given[0], [1, 1, 0, 10])
        self.assertEqual(given[1::3], [[left] for left in range(9, -1, -1)] + [[-6]])
        self.assertEqual(given[2::3], [[1, 1, 0, left] for left in range(9, 1, -1)]
                         + [[1, 0, 0, 1], [0, 0, 0, 0], [0, 0, 0, 0]])
        self.assertEqual(given[3::3], [[made, 0] for made in range(7, -1, -1)] + [[0, 0]] * 3)

    def test_one_more_than_ten(self):
        rows = [REST, ("fact", 0, 0, 1)] + [("claim", 0, 0, 0, 1)] * 9
        given = after(rows, STATE, *[BACK] * 11, STATE, BOOK)
        self.assertEqual(given, [[1, 1, 0, 10]] + [[left] for left in range(9, -1, -1)] + [[-6], [1, 0, 0, 0], [0, 0]])

    def test_many_more_than_ten(self):
        rows = [REST, ("fact", 0, 0, 1)] + [("claim", 0, 0, -1, 1)] * 40
        given = after(rows, *[BACK] * 11, STATE, BOOK)
        self.assertEqual(given, [[left] for left in range(9, -1, -1)] + [[-6], [1, 1, 0, 0], [30, 30]])

    def test_behind_a_begin_that_came_later_than_changes(self):
        given = ask(("begin",), *stations_and_facts(3), ("begin",), STATE, BACK, STATE, REST, BACK, BACK)
        self.assertEqual(given[5:], [[0], [0, 0, 0, 0], [-6], [0, 0, 0, 0], [0], [0], [-6]])

    def test_begin_is_no_change(self):
        self.assertEqual(ask(("begin",), ("begin",), STATE, BACK, REST, ("begin",), BACK)[2:],
                         [[0, 0, 0, 0], [-6], [0], [0], [-6]])

    def test_back_and_then_another_change(self):
        given = after(stations_and_facts(2), BACK, ("fact", 0, 7, 1), STATE, ("factis", 1), BACK, ("factis", 1), STATE,
                      BACK, BACK, BACK)
        self.assertEqual(given, [[2], [1], [1, 2, 0, 3], [0, 7, 1], [2], [-2], [1, 1, 0, 2], [1], [0], [-6]])

    def test_back_from_the_full_ten_and_another_change(self):
        rows = [REST] + [("fact", 0, f, 1) for f in range(6)] + [("unfact",)] * 5
        self.assertEqual(after(rows, STATE, BACK, BACK, STATE, ("fact", 0, 9, 1), STATE, *[BACK] * 10),
                         [[1, 1, 0, 10], [9], [8], [1, 3, 0, 8], [3], [1, 4, 0, 9]]
                         + [[left] for left in range(8, -1, -1)] + [[-6]])

    def test_back_is_no_change_itself(self):
        self.assertEqual(after(stations_and_facts(1), BACK, BACK, STATE, BACK), [[1], [0], [0, 0, 0, 0], [-6]])

    def test_what_was_gone_is_there_again(self):
        given = TWO + (("fact", 0, 1, 1), ("fact", 1, 3, 2), ("letter", 1, 0, 5, 2))
        self.assertEqual(after(given, ("unfact",), ("in_letter", 0), BACK, ("factis", 1), ("in_letter", 0),
                               ("unletter",), ("knew", 0, 1), BACK, ("letteris", 0), ("knew", 0, 1)),
                         [[1], [0], [5], [1, 3, 2], [1, 1], [0], [-33], [5], [1, 0, 5, 2], [0, 5, 1]])

    def test_a_claim_taken_back(self):
        given = TWO + (("fact", 0, 1, 1),)
        self.assertEqual(after(given, ("claim", 1, 0, 0, 1), ("claim", 1, 0, 2, 1), BOOK, BACK, BOOK, BACK, BOOK),
                         [[0], [1], [2, 1], [4], [1, 1], [3], [0, 0]])

    def test_a_refused_call_between(self):
        given = stations_and_facts(2)
        self.assertEqual(after(given, ("fact", 0, 0, 0), ("fact", 1, 0, 1), BACK, STATE),
                         [[-22], [-2], [2], [1, 1, 0, 2]])

    def test_taken_back_too_many_makes_room(self):
        given = stations_and_facts(6)
        self.assertEqual(after(given, ("fact", 0, 0, 1), BACK, ("fact", 0, 0, 1), ("fact", 0, 0, 1)),
                         [[-28], [6], [5], [-28]])


if __name__ == "__main__":
    unittest.main()
