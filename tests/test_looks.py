import unittest

from asking import LEFT, REST, RIGHT, after

TWO = (REST, RIGHT)


class IsStation(unittest.TestCase):
    def test_tells_time_place_and_factor(self):
        self.assertEqual(after([("station", 5, -7, 3, 8)], ("is_station", 0)), [[0, 5, -7, 3, 8]])

    def test_factor_with_nothing_in_common(self):
        self.assertEqual(after([("station", 0, 0, 6, 4), ("station", 0, 0, 9, 9), ("station", 0, 0, 2, 8)],
                               ("is_station", 0), ("is_station", 1), ("is_station", 2)),
                         [[0, 0, 0, 3, 2], [0, 0, 0, 1, 1], [0, 0, 0, 1, 4]])

    def test_none_such(self):
        self.assertEqual(after(TWO, ("is_station", 1), ("is_station", 2)), [[0, 0, 0, 2, 1], [-2]])


class FactIs(unittest.TestCase):
    def test_station_and_when(self):
        given = TWO + (("fact", 1, 6, 4), ("fact", 0, -10, 4), ("fact", 1, 0, 7), ("fact", 0, -999, 99))
        self.assertEqual(after(given, ("factis", 0), ("factis", 1), ("factis", 2), ("factis", 3), ("factis", 4)),
                         [[1, 3, 2], [0, -5, 2], [1, 0, 1], [0, -111, 11], [-2]])


class LetterIs(unittest.TestCase):
    def test_from_whom_to_whom_and_when(self):
        given = TWO + (("letter", 1, 0, -6, 4), ("letter", 0, 1, 0, 99))
        self.assertEqual(after(given, ("letteris", 0), ("letteris", 1), ("letteris", 2)),
                         [[1, 0, -3, 2], [0, 1, 0, 1], [-2]])


class Where(unittest.TestCase):
    def test_at_rest(self):
        given = [("station", 3, -4, 1, 1), ("fact", 0, 5, 2), ("fact", 0, -3, 1)]
        self.assertEqual(after(given, ("where", 0), ("where", 1), ("where", 2)),
                         [[0, 11, 2, -4, 1], [0, 0, 1, -4, 1], [-2]])

    def test_moving(self):
        given = [RIGHT, LEFT, ("fact", 0, 4, 1), ("fact", 1, 4, 1), ("fact", 0, -1, 1), ("fact", 1, -1, 1)]
        self.assertEqual(after(given, ("where", 0), ("where", 1), ("where", 2), ("where", 3)),
                         [[0, 5, 1, 3, 1], [0, 5, 1, -3, 1], [0, -5, 4, -3, 4], [0, -5, 4, 3, 4]])

    def test_moving_from_elsewhere(self):
        # Time less place: 6 + (1/3) / (3/2); time and place together: -4 + (1/3) * (3/2).
        given = [("station", 1, -5, 3, 2), ("fact", 0, 1, 3)]
        self.assertEqual(after(given, ("where", 0)), [[0, 49, 36, -175, 36]])

    def test_factor_counts_as_reduced(self):
        given = [("station", 0, 0, 4, 2), ("fact", 0, 8, 2)]
        self.assertEqual(after(given, ("where", 0)), [[0, 5, 1, 3, 1]])

    def test_far_ends(self):
        # Less: 198 + 999 * 9; together: 0 + 111.
        given = [("station", 99, -99, 1, 9), ("fact", 0, 999, 1)]
        self.assertEqual(after(given, ("where", 0)), [[0, 4650, 1, -4539, 1]])


class Comes(unittest.TestCase):
    def test_to_the_right_and_to_the_left(self):
        given = [REST, ("station", 0, 3, 1, 1), ("letter", 0, 1, 1, 1), ("letter", 1, 0, 1, 1)]
        self.assertEqual(after(given, ("comes", 0), ("comes", 1), ("comes", 2)), [[0, 4, 1], [0, 4, 1], [-2]])

    def test_to_one_that_moves_off(self):
        given = TWO + (("letter", 0, 1, 1, 1), ("letter", 1, 0, 2, 1))
        self.assertEqual(after(given, ("comes", 0), ("comes", 1)), [[0, 2, 1], [0, 4, 1]])

    def test_to_one_that_comes_nearer(self):
        given = TWO + (("letter", 0, 1, -4, 1), ("letter", 1, 0, -4, 1))
        self.assertEqual(after(given, ("comes", 0), ("comes", 1)), [[0, -2, 1], [0, -2, 1]])

    def test_by_the_receivers_clock(self):
        # From (2, 1) to a clock that shows 0 at time 50: it hears at time 8.
        given = [("station", 0, 1, 1, 1), ("station", 50, 7, 1, 1), ("letter", 0, 1, 2, 1)]
        self.assertEqual(after(given, ("comes", 0)), [[0, -42, 1]])

    def test_a_fraction(self):
        # 5/3 sent from rest: (5/3) * (2/3) against (5/3) * (3/2).
        given = [REST, ("station", 0, 0, 2, 3), ("letter", 0, 1, 5, 3)]
        self.assertEqual(after(given, ("comes", 0)), [[0, 5, 2]])

    def test_where_stations_meet(self):
        given = TWO + (("letter", 0, 1, 0, 1), ("letter", 1, 0, 0, 5))
        self.assertEqual(after(given, ("comes", 0), ("comes", 1)), [[0, 0, 1], [0, 0, 1]])


class InLetter(unittest.TestCase):
    def test_nothing_known(self):
        self.assertEqual(after(TWO + (("letter", 0, 1, 1, 1),), ("in_letter", 0), ("in_letter", 1)), [[0], [-2]])

    def test_facts_of_the_sender_till_then_rising(self):
        given = TWO + (("fact", 0, 5, 1), ("fact", 0, 4, 1), ("fact", 1, 1, 1), ("fact", 0, 6, 1), ("fact", 0, -9, 1),
                       ("letter", 0, 1, 5, 1))
        self.assertEqual(after(given, ("in_letter", 0)), [[3, 0, 1, 4]])

    def test_same_moment_is_in_it(self):
        given = TWO + (("fact", 0, 1, 3), ("letter", 0, 1, 33, 99), ("letter", 0, 1, 32, 97))
        self.assertEqual(after(given, ("in_letter", 0), ("in_letter", 1)), [[1, 0], [0]])

    def test_fact_told_behind_the_letter_but_sooner_by_the_clock(self):
        given = TWO + (("letter", 0, 1, 5, 1), ("fact", 0, 6, 1), ("fact", 0, 5, 1))
        self.assertEqual(after(given, ("in_letter", 0)), [[1, 1]])

    def test_fact_heard_of_by_nobodys_letter(self):
        given = TWO + (("fact", 1, 1, 1), ("letter", 0, 1, 900, 1))
        self.assertEqual(after(given, ("in_letter", 0)), [[0]])

    def test_sent_just_when_another_comes(self):
        given = TWO + (("fact", 0, 1, 1), ("letter", 0, 1, 1, 1), ("letter", 1, 0, 2, 1), ("letter", 1, 0, 197, 99))
        self.assertEqual(after(given, ("in_letter", 1), ("in_letter", 2)), [[1, 0], [0]])

    def test_order_of_the_calls_does_not_matter(self):
        given = TWO + (("letter", 1, 0, 2, 1), ("letter", 0, 1, 1, 1), ("fact", 0, 1, 1))
        self.assertEqual(after(given, ("in_letter", 0), ("in_letter", 1)), [[1, 0], [1, 0]])

    def test_letter_to_another_brings_nothing_here(self):
        given = TWO + (LEFT, ("fact", 0, 0, 1), ("letter", 0, 1, 0, 1), ("letter", 2, 0, 9, 1))
        self.assertEqual(after(given, ("in_letter", 1)), [[0]])

    def test_there_and_back_where_stations_meet(self):
        given = TWO + (("fact", 0, -1, 1), ("fact", 1, -1, 1), ("letter", 0, 1, 0, 1), ("letter", 1, 0, 0, 1))
        self.assertEqual(after(given, ("in_letter", 0), ("in_letter", 1)), [[2, 0, 1], [2, 0, 1]])

    def test_round_three_that_meet(self):
        given = TWO + (LEFT, ("fact", 0, 0, 1), ("fact", 1, 0, 1), ("fact", 2, 0, 1),
                       ("letter", 0, 1, 0, 1), ("letter", 1, 2, 0, 1), ("letter", 2, 0, 0, 1))
        self.assertEqual(after(given, ("in_letter", 0), ("in_letter", 1), ("in_letter", 2)), [[3, 0, 1, 2]] * 3)

    def test_chain_of_six(self):
        given = TWO + (("fact", 0, 1, 1), ("letter", 1, 0, 32, 1), ("letter", 0, 1, 16, 1), ("letter", 1, 0, 8, 1),
                       ("letter", 0, 1, 4, 1), ("letter", 1, 0, 2, 1), ("letter", 0, 1, 1, 1))
        self.assertEqual(after(given, *[("in_letter", m) for m in range(6)]), [[1, 0]] * 6)
        self.assertEqual(after(given, ("unletter",), *[("in_letter", m) for m in range(5)]),
                         [[5], [1, 0], [1, 0], [1, 0], [1, 0], [0]])


class LookingChangesNothing(unittest.TestCase):
    def test_asked_again_in_any_order(self):
        given = TWO + (("fact", 0, 1, 1), ("letter", 0, 1, 1, 1))
        looks = [("is_station", 1), ("factis", 0), ("letteris", 0), ("where", 0), ("comes", 0), ("in_letter", 0)]
        once = after(given, *looks)
        self.assertEqual(after(given, *looks, *looks), once * 2)
        self.assertEqual(after(given, *looks[::-1]), once[::-1])
        wrong = [("is_station", 9), ("station", 0, 0, 0, 1), ("fact", 0, 0, 0), ("letter", 0, 0, 0, 1),
                 ("claim", 0, 9, 0, 1)]
        self.assertEqual(after(given, *wrong, *looks)[len(wrong):], once)


if __name__ == "__main__":
    unittest.main()
