import unittest

from asking import LEFT, REST, RIGHT, after

TWO = (REST, RIGHT)


class Stations(unittest.TestCase):
    def test_numbered_from_0_and_at_most_4(self):
        self.assertEqual(after([], REST, RIGHT, LEFT, REST, REST, ("is_station", 3), ("is_station", 4)),
                         [[0], [1], [2], [3], [-28], [0, 0, 0, 1, 1], [-2]])

    def test_time_and_place_from_minus_99_to_99(self):
        self.assertEqual(after([], ("station", -99, 99, 1, 1), ("station", 99, -99, 1, 1),
                               ("is_station", 0), ("is_station", 1)),
                         [[0], [1], [0, -99, 99, 1, 1], [0, 99, -99, 1, 1]])
        for t, x in ((100, 0), (-100, 0), (0, 100), (0, -100)):
            self.assertEqual(after([], ("station", t, x, 1, 1), ("is_station", 0)), [[-22], [-2]])

    def test_factor_from_1_to_9(self):
        self.assertEqual(after([], ("station", 0, 0, 1, 9), ("station", 0, 0, 9, 1)), [[0], [1]])
        for p, q in ((0, 1), (1, 0), (10, 1), (1, 10), (0, 0), (10, 10)):
            self.assertEqual(after([], ("station", 0, 0, p, q), ("is_station", 0)), [[-22], [-2]])

    def test_out_of_range_is_told_before_too_many(self):
        four = [REST] * 4
        self.assertEqual(after(four, ("station", 100, 0, 1, 1), ("station", 0, 0, 1, 0), REST), [[-22], [-22], [-28]])


class Facts(unittest.TestCase):
    def test_numbered_from_0_and_at_most_6(self):
        self.assertEqual(after(TWO, *[("fact", 1, 0, 1)] * 7), [[0], [1], [2], [3], [4], [5], [-28]])

    def test_edges_of_a_clock_number(self):
        self.assertEqual(after(TWO, ("fact", 0, -999, 1), ("fact", 0, 999, 99), ("fact", 0, 0, 99)), [[0], [1], [2]])
        for n, d in ((-1000, 1), (1000, 1), (0, 0), (0, 100), (1, 0), (1000, 100)):
            self.assertEqual(after(TWO, ("fact", 0, n, d), ("factis", 0)), [[-22], [-2]])

    def test_no_such_station(self):
        self.assertEqual(after([], ("fact", 0, 0, 1)), [[-2]])
        self.assertEqual(after(TWO, ("fact", 2, 0, 1), ("fact", 1, 0, 1)), [[-2], [0]])

    def test_which_of_two_refusals(self):
        six = list(TWO) + [("fact", 0, 0, 1)] * 6
        self.assertEqual(after(six, ("fact", 2, 0, 0), ("fact", 2, 0, 1), ("fact", 0, 0, 0), ("fact", 0, 0, 1)),
                         [[-2], [-2], [-22], [-28]])


class Letters(unittest.TestCase):
    def test_numbered_from_0_and_at_most_6(self):
        self.assertEqual(after(TWO, *[("letter", 1, 0, 0, 1)] * 7), [[0], [1], [2], [3], [4], [5], [-28]])

    def test_edges_of_a_clock_number(self):
        self.assertEqual(after(TWO, ("letter", 0, 1, -999, 1), ("letter", 0, 1, 999, 99)), [[0], [1]])
        for n, d in ((-1000, 1), (1000, 1), (0, 0), (0, 100)):
            self.assertEqual(after(TWO, ("letter", 0, 1, n, d), ("letteris", 0)), [[-22], [-2]])

    def test_no_such_station(self):
        self.assertEqual(after(TWO, ("letter", 2, 0, 0, 1), ("letter", 0, 2, 0, 1), ("letter", 2, 2, 0, 1)),
                         [[-2], [-2], [-2]])

    def test_to_itself_is_out_of_range(self):
        self.assertEqual(after(TWO, ("letter", 0, 0, 0, 1), ("letter", 1, 1, 0, 1), ("letteris", 0)),
                         [[-22], [-22], [-2]])

    def test_stations_in_one_place_are_still_two(self):
        self.assertEqual(after([REST, REST], ("letter", 0, 1, 3, 1), ("comes", 0)), [[0], [0, 3, 1]])

    def test_which_of_two_refusals(self):
        six = list(TWO) + [("letter", 0, 1, 0, 1)] * 6
        self.assertEqual(after(six, ("letter", 2, 2, 0, 0), ("letter", 0, 2, 0, 0), ("letter", 2, 0, 0, 1),
                               ("letter", 0, 0, 0, 1), ("letter", 0, 1, 0, 0), ("letter", 0, 1, 0, 1)),
                         [[-2], [-2], [-2], [-22], [-22], [-28]])


class Gone(unittest.TestCase):
    def test_unfact_takes_the_last(self):
        given = TWO + (("fact", 0, 1, 1), ("fact", 1, 2, 1))
        self.assertEqual(after(given, ("unfact",), ("factis", 1), ("factis", 0), ("fact", 1, 3, 1), ("factis", 1),
                               ("unfact",), ("unfact",), ("unfact",)),
                         [[1], [-2], [0, 1, 1], [1], [1, 3, 1], [1], [0], [-6]])

    def test_unletter_takes_the_last(self):
        given = TWO + (("letter", 0, 1, 1, 1), ("letter", 1, 0, 2, 1))
        self.assertEqual(after(given, ("unletter",), ("letteris", 1), ("letteris", 0), ("letter", 1, 0, 3, 1),
                               ("letteris", 1), ("unletter",), ("unletter",), ("unletter",)),
                         [[1], [-2], [0, 1, 1, 1], [1], [1, 0, 3, 1], [1], [0], [-6]])

    def test_unfact_leaves_letters_and_the_other_way_about(self):
        given = TWO + (("fact", 0, 1, 1), ("letter", 0, 1, 1, 1))
        self.assertEqual(after(given, ("unfact",), ("in_letter", 0), ("unletter",), ("fact", 0, 0, 1)),
                         [[0], [0], [0], [0]])
        self.assertEqual(after(given, ("unletter",), ("factis", 0)), [[0], [0, 1, 1]])

    def test_room_again(self):
        six = list(TWO) + [("fact", 0, 0, 1)] * 6 + [("letter", 0, 1, 0, 1)] * 6
        self.assertEqual(after(six, ("unfact",), ("fact", 1, 0, 1), ("unletter",), ("letter", 1, 0, 0, 1)),
                         [[5], [5], [5], [5]])


class Claims(unittest.TestCase):
    def test_no_letters(self):
        given = TWO + (("fact", 0, 1, 1),)
        self.assertEqual(after(given, ("claim", 1, 0, 1, 1), ("claim", 1, 0, 2, 1), ("claim", 1, 0, 999, 1)),
                         [[0], [1], [1]])

    def test_where_it_came_to_be(self):
        given = TWO + (("fact", 0, 1, 2),)
        self.assertEqual(after(given, ("claim", 0, 0, 1, 2), ("claim", 0, 0, 49, 99), ("claim", 0, 0, 1, 1)),
                         [[2], [0], [2]])

    def test_just_in_time(self):
        given = TWO + (("fact", 0, 1, 1), ("letter", 0, 1, 1, 1))
        self.assertEqual(after(given, ("claim", 1, 0, 2, 1), ("claim", 1, 0, 199, 99), ("claim", 1, 0, 197, 99)),
                         [[2], [2], [0]])

    def test_letter_later_than_the_fact(self):
        given = TWO + (("fact", 0, 1, 1), ("letter", 0, 1, 3, 1))
        self.assertEqual(after(given, ("claim", 1, 0, 1, 1), ("claim", 1, 0, 2, 1), ("claim", 1, 0, 5, 1),
                               ("claim", 1, 0, 6, 1)), [[0], [1], [1], [2]])

    def test_fact_behind_the_letter(self):
        given = TWO + (("letter", 0, 1, 1, 1), ("fact", 0, 2, 1))
        self.assertEqual(after(given, ("claim", 1, 0, 3, 1), ("claim", 1, 0, 4, 1)), [[0], [1]])

    def test_over_two_others(self):
        # From 0 over 1 (4 to the left) to 2 (4 to the right): 8 later than it could be.
        given = [REST, ("station", 0, -4, 1, 1), ("station", 0, 4, 1, 1), ("fact", 0, 0, 1),
                 ("letter", 0, 1, 0, 1), ("letter", 1, 2, 4, 1)]
        self.assertEqual(after(given, ("comes", 0), ("comes", 1), ("claim", 2, 0, 3, 1), ("claim", 2, 0, 4, 1),
                               ("claim", 2, 0, 11, 1), ("claim", 2, 0, 12, 1)),
                         [[0, 4, 1], [0, 12, 1], [0], [1], [1], [2]])

    def test_clock_numbers_below_0(self):
        given = TWO + (("fact", 1, -4, 1), ("letter", 1, 0, -4, 1))
        self.assertEqual(after(given, ("claim", 0, 0, -3, 1), ("claim", 0, 0, -2, 1), ("claim", 1, 0, -4, 1),
                               ("claim", 1, 0, -5, 1)), [[0], [2], [2], [0]])

    def test_edges_of_a_clock_number(self):
        given = TWO + (("fact", 0, 999, 1),)
        self.assertEqual(after(given, ("claim", 0, 0, 999, 1), ("claim", 0, 0, -999, 1), ("claim", 0, 0, 999, 99),
                               ("claim", 0, 0, 1000, 1), ("claim", 0, 0, -1000, 1), ("claim", 0, 0, 0, 0),
                               ("claim", 0, 0, 0, 100)), [[2], [0], [0], [-22], [-22], [-22], [-22]])

    def test_which_of_two_refusals(self):
        given = TWO + (("fact", 0, 0, 1),)
        self.assertEqual(after(given, ("claim", 2, 0, 0, 1), ("claim", 0, 1, 0, 1), ("claim", 2, 1, 0, 0),
                               ("claim", 0, 1, 1000, 1), ("claim", 2, 0, 0, 0), ("claim", 0, 0, 0, 0)),
                         [[-2], [-2], [-2], [-2], [-2], [-22]])

    def test_claims_are_not_bounded_and_make_nothing_known(self):
        given = TWO + (("fact", 0, 1, 1),)
        self.assertEqual(after(given, *[("claim", 1, 0, 2, 1)] * 20), [[1]] * 20)

    def test_judged_anew_when_letters_go(self):
        given = TWO + (("fact", 0, 1, 1), ("letter", 0, 1, 1, 1))
        self.assertEqual(after(given, ("claim", 1, 0, 2, 1), ("unletter",), ("claim", 1, 0, 2, 1)), [[2], [0], [1]])


if __name__ == "__main__":
    unittest.main()
