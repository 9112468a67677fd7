import unittest

from asking import BIG, LEFT, REST, RIGHT, after

FAR_RIGHT = ("station", 0, 6, 1, 1)
FAR_LEFT = ("station", 0, -6, 1, 1)


class Own(unittest.TestCase):
    def test_side_time_and_place_at_rest(self):
        given = (REST, FAR_RIGHT, FAR_LEFT, ("fact", 0, 5, 2), ("fact", 1, 2, 1), ("fact", 2, -3, 1))
        self.assertEqual(after(given, ("own", 0, 0), ("own", 0, 1), ("own", 0, 2)),
                         [[0, 5, 2, 0, 1], [1, 2, 1, 6, 1], [2, -3, 1, 6, 1]])

    def test_by_its_own_clock(self):
        given = (("station", 10, 7, 1, 1), REST, ("fact", 1, 4, 1))
        self.assertEqual(after(given, ("own", 0, 0), ("own", 1, 0)), [[2, -6, 1, 7, 1], [0, 4, 1, 0, 1]])

    def test_moving(self):
        # At time 4, place 0: the clock of the one to the right shows 8 and 2, of the one to the left 2 and 8.
        given = (REST, RIGHT, LEFT, ("fact", 0, 4, 1))
        self.assertEqual(after(given, ("own", 1, 0), ("own", 2, 0)), [[2, 5, 1, 3, 1], [1, 5, 1, 3, 1]])

    def test_fractions(self):
        given = (REST, ("station", 0, 0, 3, 2), ("fact", 0, 1, 1))
        self.assertEqual(after(given, ("own", 1, 0)), [[2, 13, 12, 5, 12]])

    def test_below_0(self):
        given = (REST, RIGHT, ("fact", 0, -4, 1))
        self.assertEqual(after(given, ("own", 1, 0), ("own", 0, 0)), [[1, -5, 1, 3, 1], [0, -4, 1, 0, 1]])

    def test_there_when_stations_meet(self):
        given = (REST, RIGHT, ("fact", 0, 0, 1))
        self.assertEqual(after(given, ("own", 0, 0), ("own", 1, 0)), [[0, 0, 1, 0, 1]] * 2)

    def test_none_such(self):
        given = (REST, ("fact", 0, 0, 1))
        self.assertEqual(after(given, ("own", 1, 0), ("own", 0, 1), ("own", 1, 1), ("own", BIG, 0),
                               ("own", 0, BIG)), [[-2]] * 5)


class Sooner(unittest.TestCase):
    def test_at_one_station(self):
        given = (REST, ("fact", 0, 1, 3), ("fact", 0, 1, 2), ("fact", 0, 2, 6))
        self.assertEqual(after(given, ("sooner", 0, 0, 1), ("sooner", 0, 1, 0), ("sooner", 0, 0, 2),
                               ("sooner", 0, 1, 1)),
                         [[0], [2], [1], [1]])

    def test_sooner_for_one_and_later_for_another(self):
        given = (REST, RIGHT, LEFT, FAR_RIGHT, ("fact", 0, 0, 1), ("fact", 3, 0, 1))
        self.assertEqual(after(given, *[("sooner", i, 0, 1) for i in range(4)]), [[1], [2], [0], [1]])
        self.assertEqual(after(given, *[("sooner", i, 1, 0) for i in range(4)]), [[1], [0], [2], [1]])

    def test_not_by_when_it_is_heard(self):
        # From 6 off at time 0, and here at time 5: heard of at 6 and at 5.
        given = (REST, FAR_RIGHT, ("fact", 1, 0, 1), ("fact", 0, 5, 1))
        self.assertEqual(after(given, ("first", 0, 0), ("first", 0, 1), ("sooner", 0, 0, 1), ("sooner", 0, 1, 0)),
                         [[0, 6, 1], [0, 5, 1], [0], [2]])

    def test_below_0(self):
        given = (REST, ("fact", 0, -1, 2), ("fact", 0, -1, 3))
        self.assertEqual(after(given, ("sooner", 0, 0, 1), ("sooner", 0, 1, 0)), [[0], [2]])

    def test_none_such(self):
        given = (REST, ("fact", 0, 0, 1))
        self.assertEqual(after(given, ("sooner", 1, 0, 0), ("sooner", 0, 1, 0), ("sooner", 0, 0, 1),
                               ("sooner", 1, 1, 1),
                               ("sooner", 0, 0, BIG)), [[-2]] * 5)


class Heard(unittest.TestCase):
    def test_at_one_station(self):
        given = (RIGHT, ("fact", 0, 1, 1), ("fact", 0, 2, 1))
        self.assertEqual(after(given, ("heard", 0, 1), ("heard", 1, 0), ("heard", 1, 1)), [[0], [2], [1]])

    def test_two_facts_at_one_time_and_place(self):
        given = (REST, RIGHT, ("fact", 0, 0, 1), ("fact", 1, 0, 5), ("fact", 0, 0, 2))
        self.assertEqual(after(given, ("heard", 0, 1), ("heard", 1, 0), ("heard", 0, 2)), [[1], [1], [1]])

    def test_just_by_light(self):
        given = (REST, FAR_RIGHT, FAR_LEFT, ("fact", 0, 0, 1), ("fact", 1, 6, 1), ("fact", 2, 6, 1))
        self.assertEqual(after(given, ("heard", 0, 1), ("heard", 1, 0), ("heard", 0, 2), ("heard", 2, 0)),
                         [[0], [2], [0], [2]])

    def test_neither(self):
        given = (REST, FAR_RIGHT, FAR_LEFT, ("fact", 0, 0, 1), ("fact", 1, 593, 99), ("fact", 2, 593, 99),
                 ("fact", 1, 0, 1))
        self.assertEqual(after(given, ("heard", 0, 1), ("heard", 1, 0), ("heard", 0, 2), ("heard", 2, 0),
                               ("heard", 0, 3), ("heard", 1, 2)), [[3]] * 6)

    def test_no_letter_is_needed_and_none_matters(self):
        given = (REST, FAR_RIGHT, ("fact", 0, 0, 1), ("fact", 1, 9, 1))
        self.assertEqual(after(given, ("heard", 0, 1), ("letter", 1, 0, 9, 1), ("heard", 0, 1), ("heard", 1, 0)),
                         [[0], [0], [0], [2]])

    def test_none_such(self):
        given = (REST, ("fact", 0, 0, 1))
        self.assertEqual(after(given, ("heard", 1, 0), ("heard", 0, 1), ("heard", 1, 1), ("heard", BIG, 0)), [[-2]] * 4)


class Book(unittest.TestCase):
    def test_no_claims(self):
        self.assertEqual(after([], ("book",)), [[0, 0]])
        self.assertEqual(after((REST, ("fact", 0, 0, 1)), ("book",)), [[0, 0]])

    def test_made_and_impossible(self):
        given = (REST, RIGHT, ("fact", 0, 1, 1))
        self.assertEqual(after(given, ("claim", 1, 0, 197, 99), ("book",), ("claim", 1, 0, 2, 1), ("book",),
                               ("claim", 0, 0, 1, 1), ("book",), ("claim", 0, 0, 0, 1), ("book",)),
                         [[0], [1, 1], [1], [2, 1], [2], [3, 1], [0], [4, 2]])

    def test_the_same_claim_twice_is_two(self):
        given = (REST, ("fact", 0, 1, 1))
        self.assertEqual(after(given, ("claim", 0, 0, 0, 1), ("claim", 0, 0, 0, 1), ("book",)), [[0], [0], [2, 2]])

    def test_a_refused_claim_is_not_made(self):
        given = (REST, ("fact", 0, 1, 1))
        self.assertEqual(after(given, ("claim", 1, 0, 0, 1), ("claim", 0, 1, 0, 1), ("claim", 0, 0, 1000, 1),
                               ("claim", 0, 0, 0, 100), ("book",)), [[-2], [-2], [-22], [-22], [0, 0]])

    def test_a_claim_stays_as_it_was_judged(self):
        given = (REST, RIGHT, ("fact", 0, 1, 1))
        self.assertEqual(after(given, ("claim", 1, 0, 1, 1), ("unfact",), ("book",), ("fact", 1, 1, 1), ("book",)),
                         [[0], [0], [1, 1], [0], [1, 1]])

    def test_a_begin_empties_it(self):
        given = (REST, ("fact", 0, 1, 1), ("claim", 0, 0, 0, 1), ("begin",))
        self.assertEqual(after(given, ("book",)), [[0, 0]])

    def test_more_than_can_be_taken_back(self):
        given = (REST, ("fact", 0, 1, 1))
        self.assertEqual(after(given, *[("claim", 0, 0, 0, 1), ("claim", 0, 0, 1, 1)] * 60, ("book",))[-1], [120, 60])


if __name__ == "__main__":
    unittest.main()
