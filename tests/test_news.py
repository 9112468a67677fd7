import unittest

from asking import BIG, LEFT, REST, RIGHT, after

TWO = (REST, RIGHT)
# From 0 over 1 (4 to the left) to 2 (4 to the right): known there 8 later than it could be.
OVER = (REST, ("station", 0, -4, 1, 1), ("station", 0, 4, 1, 1), ("fact", 0, 0, 1),
        ("letter", 0, 1, 0, 1), ("letter", 1, 2, 4, 1))


class Known(unittest.TestCase):
    def test_no_facts(self):
        self.assertEqual(after(TWO, ("known", 0, 999, 1), ("known", 1, -999, 1)), [[0], [0]])

    def test_no_letters(self):
        given = TWO + (("fact", 0, 1, 1), ("fact", 1, 1, 1))
        self.assertEqual(after(given, ("known", 0, 999, 1), ("known", 1, 999, 1)), [[1, 0], [1, 1]])

    def test_where_it_came_to_be_rising(self):
        given = TWO + (("fact", 0, 5, 1), ("fact", 0, -4, 1), ("fact", 1, 1, 1), ("fact", 0, 2, 1))
        self.assertEqual(after(given, ("known", 0, 5, 1), ("known", 0, 494, 99), ("known", 0, 2, 1),
                               ("known", 0, -4, 1), ("known", 0, -5, 1)),
                         [[3, 0, 1, 3], [2, 1, 3], [2, 1, 3], [1, 1], [0]])

    def test_by_letter_just_when_it_comes(self):
        given = TWO + (("fact", 0, 1, 1), ("letter", 0, 1, 1, 1))
        self.assertEqual(after(given, ("known", 1, 197, 99), ("known", 1, 2, 1), ("known", 1, 198, 99)),
                         [[0], [1, 0], [1, 0]])

    def test_a_fact_behind_a_letter(self):
        given = TWO + (("letter", 0, 1, 1, 1), ("fact", 0, 100, 99), ("fact", 0, 1, 1))
        self.assertEqual(after(given, ("known", 1, 999, 1), ("never", 1)), [[1, 1], [1, 0]])

    def test_a_letter_sent_just_when_another_comes(self):
        given = TWO + (LEFT, ("fact", 0, 1, 1), ("letter", 0, 1, 1, 1), ("letter", 1, 2, 2, 1))
        self.assertEqual(after(given, ("comes", 1), ("known", 2, 8, 1), ("known", 2, 791, 99), ("knew", 2, 0)),
                         [[0, 8, 1], [1, 0], [0], [0, 8, 1]])

    def test_a_letter_sent_just_ahead_of_another(self):
        given = TWO + (LEFT, ("fact", 0, 1, 1), ("letter", 0, 1, 1, 1), ("letter", 1, 2, 197, 99))
        self.assertEqual(after(given, ("known", 2, 999, 1), ("knew", 2, 0)), [[0], [-33]])

    def test_there_and_back_where_stations_meet(self):
        given = TWO + (("fact", 0, -1, 1), ("fact", 1, -1, 1), ("letter", 0, 1, 0, 1), ("letter", 1, 0, 0, 1))
        self.assertEqual(after(given, ("known", 0, 0, 1), ("known", 1, 0, 7), ("known", 0, -1, 99),
                               ("known", 1, -1, 99)),
                         [[2, 0, 1], [2, 0, 1], [1, 0], [1, 1]])

    def test_over_two_others(self):
        self.assertEqual(after(OVER, ("known", 1, 4, 1), ("known", 2, 4, 1), ("known", 2, 11, 1), ("known", 2, 12, 1)),
                         [[1, 0], [0], [0], [1, 0]])

    def test_edges_of_a_clock_number(self):
        given = TWO + (("fact", 0, -999, 1), ("fact", 0, 0, 1), ("fact", 0, 999, 1))
        self.assertEqual(after(given, ("known", 0, -999, 1), ("known", 0, 999, 1), ("known", 0, 999, 99),
                               ("known", 0, -999, 99), ("known", 0, 0, 99)),
                         [[1, 0], [3, 0, 1, 2], [2, 0, 1], [1, 0], [2, 0, 1]])
        for n, d in ((-1000, 1), (1000, 1), (0, 0), (0, 100), (1000, 0), (-2147483648, 1), (0, BIG)):
            self.assertEqual(after(given, ("known", 0, n, d)), [[-22]])

    def test_no_such_station_ahead_of_out_of_range(self):
        self.assertEqual(after(TWO, ("known", 2, 0, 1), ("known", 2, 1000, 1), ("known", BIG, 0, 0),
                               ("known", 1, 0, 0)),
                         [[-2], [-2], [-2], [-22]])
        self.assertEqual(after([], ("known", 0, 0, 1), ("known", 0, 0, 0)), [[-2], [-2]])


class Could(unittest.TestCase):
    def test_no_facts(self):
        self.assertEqual(after(TWO, ("could", 0, 999, 1), ("could", 1, -999, 1)), [[0], [0]])

    def test_without_letters(self):
        given = TWO + (("fact", 0, 1, 1), ("fact", 1, 1, 1), ("fact", 1, -4, 1))
        self.assertEqual(after(given, ("could", 1, 2, 1), ("could", 1, 197, 99), ("could", 0, 2, 1), ("could", 0, 1, 1),
                               ("could", 0, -2, 1), ("could", 0, -3, 1)),
                         [[3, 0, 1, 2], [2, 1, 2], [3, 0, 1, 2], [2, 0, 2], [1, 2], [0]])

    def test_letters_make_no_difference(self):
        given = TWO + (("fact", 0, 1, 1),)
        letter = (("letter", 0, 1, 5, 1),)
        rows = [("could", i, n, 3) for i in (0, 1) for n in range(-9, 10)]
        self.assertEqual(after(given + letter, *rows), after(given, *rows))

    def test_from_both_sides(self):
        given = (REST, ("station", 0, 3, 1, 1), ("station", 0, -5, 1, 1), ("fact", 2, 0, 1), ("fact", 1, 0, 1))
        self.assertEqual(after(given, ("could", 0, 2, 1), ("could", 0, 3, 1), ("could", 0, 4, 1), ("could", 0, 5, 1)),
                         [[0], [1, 1], [1, 1], [2, 0, 1]])

    def test_edges_of_a_clock_number(self):
        given = TWO + (("fact", 0, -999, 1), ("fact", 0, 0, 1), ("fact", 0, 999, 1))
        self.assertEqual(after(given, ("could", 0, -999, 1), ("could", 0, 999, 1), ("could", 0, 999, 99),
                               ("could", 0, -999, 99)), [[1, 0], [3, 0, 1, 2], [2, 0, 1], [1, 0]])
        for n, d in ((-1000, 1), (1000, 1), (0, 0), (0, 100), (1000, 0), (2147483647, 1), (0, BIG)):
            self.assertEqual(after(given, ("could", 0, n, d)), [[-22]])

    def test_no_such_station_ahead_of_out_of_range(self):
        self.assertEqual(after(TWO, ("could", 2, 0, 1), ("could", 2, 1000, 1), ("could", BIG, 0, 0),
                               ("could", 1, 0, 0)),
                         [[-2], [-2], [-2], [-22]])


class First(unittest.TestCase):
    def test_when_it_hears(self):
        given = TWO + (("fact", 0, 1, 1), ("fact", 1, -4, 1), ("fact", 0, 5, 3))
        self.assertEqual(after(given, ("first", 0, 0), ("first", 1, 0), ("first", 0, 1), ("first", 1, 1),
                               ("first", 1, 2)),
                         [[0, 1, 1], [0, 2, 1], [0, -2, 1], [0, -4, 1], [0, 10, 3]])

    def test_at_0(self):
        self.assertEqual(after(TWO + (("fact", 0, 0, 9),), ("first", 1, 0), ("first", 0, 0)), [[0, 0, 1], [0, 0, 1]])

    def test_no_letter_is_needed(self):
        self.assertEqual(after(OVER, ("first", 2, 0), ("first", 1, 0)), [[0, 4, 1], [0, 4, 1]])
        self.assertEqual(after(OVER[:4], ("first", 2, 0), ("first", 1, 0)), [[0, 4, 1], [0, 4, 1]])

    def test_none_such(self):
        given = TWO + (("fact", 0, 1, 1),)
        self.assertEqual(after(given, ("first", 2, 0), ("first", 0, 1), ("first", 2, 1), ("first", BIG, BIG)),
                         [[-2]] * 4)


class Knew(unittest.TestCase):
    def test_where_it_came_to_be(self):
        given = TWO + (("fact", 0, 6, 4), ("fact", 1, -3, 1), ("letter", 0, 1, 9, 1), ("letter", 1, 0, 99, 1))
        self.assertEqual(after(given, ("knew", 0, 0), ("knew", 1, 1)), [[0, 3, 2], [0, -3, 1]])

    def test_by_letter(self):
        given = TWO + (("fact", 0, 1, 1), ("letter", 0, 1, 3, 1))
        self.assertEqual(after(given, ("knew", 1, 0), ("knew", 0, 0)), [[0, 6, 1], [0, 1, 1]])

    def test_the_least_of_several(self):
        given = TWO + (("fact", 0, 1, 1), ("letter", 0, 1, 7, 1), ("letter", 0, 1, 2, 1), ("letter", 0, 1, 1, 2),
                       ("letter", 0, 1, 3, 1))
        self.assertEqual(after(given, ("knew", 1, 0), ("late", 1, 0)), [[0, 4, 1], [0, 2, 1]])

    def test_over_two_others_later_than_it_could_be(self):
        self.assertEqual(after(OVER, ("knew", 2, 0), ("late", 2, 0), ("knew", 1, 0), ("late", 1, 0)),
                         [[0, 12, 1], [0, 8, 1], [0, 4, 1], [0, 0, 1]])

    def test_straight_letter_behind_the_way_round(self):
        given = OVER + (("letter", 0, 2, 9, 1),)
        self.assertEqual(after(given, ("knew", 2, 0)), [[0, 12, 1]])
        given = OVER + (("letter", 0, 2, 7, 1),)
        self.assertEqual(after(given, ("knew", 2, 0)), [[0, 11, 1]])

    def test_below_0(self):
        given = TWO + (("fact", 1, -4, 1), ("letter", 1, 0, -7, 2))
        self.assertEqual(after(given, ("knew", 0, 0), ("late", 0, 0)), [[0, -7, 4], [0, 1, 4]])

    def test_beyond_what_can_be_told(self):
        # The letter comes when the receiver's clock shows 8991: no clock's number that could be asked for.
        given = (REST, ("station", 0, 0, 9, 1), ("fact", 0, 999, 1), ("letter", 0, 1, 999, 1))
        self.assertEqual(after(given, ("knew", 1, 0), ("late", 1, 0), ("known", 1, 999, 1), ("never", 1)),
                         [[0, 8991, 1], [0, 0, 1], [0], [0]])

    def test_never(self):
        given = TWO + (("fact", 0, 1, 1),)
        self.assertEqual(after(given, ("knew", 1, 0), ("late", 1, 0)), [[-33], [-33]])
        given += (("letter", 0, 1, 98, 99), ("letter", 1, 0, 9, 1))
        self.assertEqual(after(given, ("knew", 1, 0), ("late", 1, 0)), [[-33], [-33]])

    def test_no_longer_when_the_letter_is_gone(self):
        given = TWO + (("fact", 0, 1, 1), ("letter", 0, 1, 1, 1))
        self.assertEqual(after(given, ("knew", 1, 0), ("unletter",), ("knew", 1, 0), ("back",), ("knew", 1, 0)),
                         [[0, 2, 1], [0], [-33], [4], [0, 2, 1]])

    def test_none_such_ahead_of_never(self):
        given = TWO + (("fact", 0, 1, 1),)
        for name in ("knew", "late"):
            self.assertEqual(after(given, (name, 2, 0), (name, 1, 1), (name, 2, 1), (name, BIG, 0), (name, 1, 0)),
                             [[-2], [-2], [-2], [-2], [-33]])


class Late(unittest.TestCase):
    def test_not_at_all(self):
        given = TWO + (("fact", 0, 1, 1), ("letter", 0, 1, 1, 1))
        self.assertEqual(after(given, ("late", 0, 0), ("late", 1, 0)), [[0, 0, 1], [0, 0, 1]])

    def test_a_fraction(self):
        given = TWO + (("fact", 0, 1, 3), ("letter", 0, 1, 1, 2))
        self.assertEqual(after(given, ("first", 1, 0), ("knew", 1, 0), ("late", 1, 0)),
                         [[0, 2, 3], [0, 1, 1], [0, 1, 3]])


class Never(unittest.TestCase):
    def test_no_facts(self):
        self.assertEqual(after(TWO, ("never", 0), ("never", 1)), [[0], [0]])

    def test_no_letters(self):
        given = TWO + (("fact", 1, 1, 1), ("fact", 0, 1, 1), ("fact", 1, 0, 1))
        self.assertEqual(after(given, ("never", 0), ("never", 1)), [[2, 0, 2], [1, 1]])

    def test_facts_that_no_letter_brings(self):
        given = TWO + (("fact", 0, 3, 1), ("fact", 0, 1, 1), ("fact", 0, 2, 1), ("letter", 0, 1, 1, 1))
        self.assertEqual(after(given, ("never", 1), ("never", 0)), [[2, 0, 2], [0]])

    def test_where_stations_meet_all_is_known(self):
        given = TWO + (LEFT, ("fact", 0, 0, 1), ("fact", 1, 0, 1), ("fact", 2, 0, 1),
                       ("letter", 0, 1, 0, 1), ("letter", 1, 2, 0, 1), ("letter", 2, 0, 0, 1))
        self.assertEqual(after(given, ("never", 0), ("never", 1), ("never", 2)), [[0]] * 3)

    def test_none_such(self):
        self.assertEqual(after(TWO, ("never", 2), ("never", BIG)), [[-2], [-2]])
        self.assertEqual(after([], ("never", 0)), [[-2]])


if __name__ == "__main__":
    unittest.main()
