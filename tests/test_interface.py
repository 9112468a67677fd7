import unittest

from asking import NAMES, REST, RIGHT, after, as_list, ask
from whohearddesk.changes import CHANGES
from whohearddesk.letters import ARGUMENTS, NotBuilt, answers
from whohearddesk.looks import LOOKS

BIG = 4294967295
ROWS = [("begin",), REST, RIGHT, ("fact", 0, 1, 1), ("letter", 0, 1, 3, 2), ("claim", 1, 0, 3, 1),
        ("where", 0), ("in_letter", 0), ("unletter",), ("fact", 7, 1, 1), ("unfact",)]


class Form(unittest.TestCase):
    def test_flat_list_with_a_count_before_each_answer(self):
        calls = [7, 0, 0, 1, 3, -4, 2, 1, 7, 0, 2, 0, 3, 2, 10, 0, 8, 9]
        self.assertEqual(answers(calls), [1, -11, 1, 0, 1, 0, 5, 0, 3, -4, 2, 1, 1, 0,
                                          5, 0, 39, 8, -23, 8, 1, -2])

    def test_gives_back_a_list_of_ints(self):
        given = answers(as_list(ROWS))
        self.assertIs(type(given), list)
        self.assertEqual({type(number) for number in given}, {int})

    def test_numbers_and_arguments_of_the_calls(self):
        for number, call in list(CHANGES.items()) + list(LOOKS.items()):
            self.assertEqual(call.__name__, NAMES[number])
            self.assertEqual(call.__code__.co_argcount - 1, ARGUMENTS[number])
        self.assertEqual(sorted(list(CHANGES) + list(LOOKS)), list(range(13)))

    def test_a_call_not_built_yet_fails_loudly(self):
        for number in range(13, 25):
            with self.assertRaises(NotBuilt):
                answers([0, number] + [0] * ARGUMENTS[number])

    def test_256_calls(self):
        rows = [("begin",)] + [REST, ("claim", 0, 0, 0, 1), ("unfact",)] * 85
        self.assertEqual(len(rows), 256)
        self.assertEqual(ask(*rows)[-3:], [[-28], [-2], [-6]])
        self.assertEqual(len(as_list([("letter", 0, 0, 0, 0)] * 256)), 1280)
        self.assertEqual(ask(*[("letter", 0, 0, 0, 0)] * 256), [[-11]] * 256)


class NothingKept(unittest.TestCase):
    def test_list_is_as_it_was(self):
        calls = as_list(ROWS)
        before = list(calls)
        answers(calls)
        self.assertEqual(calls, before)

    def test_second_call_answers_the_same(self):
        calls = as_list(ROWS)
        self.assertEqual(answers(calls), answers(calls))

    def test_a_new_object_each_time(self):
        answers(as_list(ROWS))
        self.assertEqual(ask(("is_station", 0)), [[-11]])
        self.assertEqual(ask(("begin",), ("is_station", 0)), [[0], [-2]])

    def test_what_is_given_back_is_the_askers_own(self):
        calls = as_list(ROWS)
        given = answers(calls)
        right = list(given)
        given.clear()
        self.assertEqual(answers(calls), right)


class NotBegun(unittest.TestCase):
    def test_every_other_call(self):
        for number in range(1, 25):
            self.assertEqual(answers([number] + [1] * ARGUMENTS[number]), [1, -11], NAMES[number])

    def test_ahead_of_every_other_refusal(self):
        rows = [("station", 100, 0, 0, 0), ("fact", BIG, 1000, 0), ("letter", 0, 0, 0, 0), ("unfact",),
                ("unletter",), ("claim", 9, 9, 0, 0), ("is_station", BIG), ("in_letter", BIG)]
        self.assertEqual(ask(*rows), [[-11]] * len(rows))

    def test_what_is_asked_ahead_of_begin_leaves_nothing(self):
        self.assertEqual(ask(REST, ("begin",), ("is_station", 0), REST), [[-11], [0], [-2], [0]])


class AnyValue(unittest.TestCase):
    def test_ends_of_each_kind(self):
        low, high = -2147483648, 2147483647
        given = [REST, RIGHT, ("fact", 0, 0, 1), ("letter", 0, 1, 0, 1)]
        for n in (low, high):
            self.assertEqual(after(given, ("station", n, 0, 1, 1), ("station", 0, n, 1, 1), ("fact", 0, n, 1),
                                   ("letter", 0, 1, n, 1), ("claim", 0, 0, n, 1)), [[-22]] * 5)
        self.assertEqual(after(given, ("station", 0, 0, BIG, 1), ("station", 0, 0, 1, BIG), ("fact", 0, 0, BIG),
                               ("letter", 0, 1, 0, BIG), ("claim", 0, 0, 0, BIG)), [[-22]] * 5)
        self.assertEqual(after(given, ("fact", BIG, 0, 1), ("letter", BIG, 1, 0, 1), ("letter", 0, BIG, 0, 1),
                               ("claim", BIG, 0, 0, 1), ("claim", 0, BIG, 0, 1)), [[-2]] * 5)
        looks = ("is_station", "factis", "letteris", "where", "comes", "in_letter")
        self.assertEqual(after(given, *[(name, BIG) for name in looks]), [[-2]] * 6)


if __name__ == "__main__":
    unittest.main()
