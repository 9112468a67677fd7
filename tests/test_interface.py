import unittest

from asking import BIG, LEFT, NAMES, REST, RIGHT, after, as_list, ask
from whohearddesk.changes import CHANGES
from whohearddesk.letters import ARGUMENTS, answers
from whohearddesk.looks import LOOKS
from whohearddesk.news import NEWS
from whohearddesk.order import ORDER

ROWS = [("begin",), REST, RIGHT, ("fact", 0, 1, 1), ("letter", 0, 1, 3, 2), ("claim", 1, 0, 3, 1),
        ("is_station", 1), ("factis", 0), ("letteris", 0), ("where", 0), ("comes", 0), ("in_letter", 0),
        ("known", 1, 3, 1), ("could", 1, 2, 1), ("first", 1, 0), ("knew", 1, 0), ("late", 1, 0), ("own", 1, 0),
        ("sooner", 1, 0, 0), ("heard", 0, 0), ("never", 1), ("book",), ("back",), ("state",),
        ("unletter",), ("fact", 7, 1, 1), ("unfact",)]
RIGHT_ANSWERS = [[0], [0], [1], [0], [0], [2],
                 [0, 0, 0, 2, 1], [0, 1, 1], [0, 1, 3, 2], [0, 1, 1, 0, 1], [0, 3, 1], [1, 0],
                 [1, 0], [1, 0], [0, 2, 1], [0, 3, 1], [0, 1, 1], [2, 5, 4, 3, 4],
                 [1], [1], [0], [1, 0], [4], [2, 1, 1, 4],
                 [0], [-2], [0]]


class Guarded(list):
    """A list that fails where it is changed, for a while only too."""

    def refuse(self, *told):
        raise AssertionError("what is handed in was changed")

    append = clear = extend = insert = pop = remove = reverse = sort = refuse
    __setitem__ = __delitem__ = __iadd__ = __imul__ = refuse


class Form(unittest.TestCase):
    def test_flat_list_with_a_count_before_each_answer(self):
        calls = [7, 0, 0, 1, 3, -4, 2, 1, 7, 0, 2, 0, 3, 2, 10, 0, 8, 9]
        self.assertEqual(answers(calls), [1, -11, 1, 0, 1, 0, 5, 0, 3, -4, 2, 1, 1, 0,
                                          5, 0, 39, 8, -23, 8, 1, -2])

    def test_gives_back_a_list_of_ints(self):
        given = answers(as_list(ROWS))
        self.assertIs(type(given), list)
        self.assertEqual({type(number) for number in given}, {int})

    def test_numbers_and_arguments_of_the_calls(self):
        calls = [pair for table in (CHANGES, LOOKS, NEWS, ORDER) for pair in table.items()]
        for number, call in calls:
            self.assertEqual(call.__name__, NAMES[number])
            self.assertEqual(call.__code__.co_argcount - 1, ARGUMENTS[number])
        self.assertEqual(sorted(number for number, call in calls), list(range(25)))

    def test_every_call_is_answered_behind_a_begin(self):
        refused = {0: 0, 1: -22, 4: -6, 5: -6, 22: 0, 23: -6, 24: 0}
        for number in range(25):
            given = answers([0, number] + [0] * ARGUMENTS[number])
            self.assertEqual(given[3], refused.get(number, -2), NAMES[number])

    def test_what_each_call_answers(self):
        self.assertEqual(ask(*ROWS), RIGHT_ANSWERS)
        self.assertEqual({row[0] for row in ROWS}, set(NAMES))

    def test_calls_by_their_numbers(self):
        calls = [0, 1, 0, 0, 1, 1, 1, 0, 0, 2, 1, 2, 0, 1, 1, 3, 0, 1, 2, 1, 13, 1, 4, 1, 14, 1, 1, 1, 15, 1, 0,
                 16, 1, 0, 17, 1, 0, 18, 1, 0, 19, 1, 0, 0, 20, 0, 0, 21, 1, 22, 23, 24, 16, 1, 0]
        self.assertEqual(answers(calls), [1, 0, 1, 0, 1, 1, 1, 0, 1, 0, 2, 1, 0, 1, 0, 3, 0, 2, 1, 3, 0, 4, 1,
                                          3, 0, 2, 1, 5, 2, 5, 4, 3, 4, 1, 1, 1, 1, 1, 0, 2, 0, 0, 1, 3, 4, 2, 1, 0, 3,
                                          1, -33])

    def test_256_calls_with_all_25_among_them(self):
        rows = (ROWS * 10)[:256]
        self.assertEqual((len(rows), {row[0] for row in rows}), (256, set(NAMES)))
        self.assertEqual(ask(*rows), (RIGHT_ANSWERS * 10)[:256])

    def test_256_calls_before_a_begin_and_behind_it(self):
        ahead = [row for row in ROWS if row[0] != "begin"] * 4
        rows = ahead + (ROWS * 10)[:256 - len(ahead)]
        self.assertEqual(len(rows), 256)
        self.assertEqual(ask(*rows), [[-11]] * len(ahead) + (RIGHT_ANSWERS * 10)[:256 - len(ahead)])

    def test_256_calls_and_never_a_begin(self):
        rows = ([row for row in ROWS if row[0] != "begin"] * 10)[:256]
        self.assertEqual(ask(*rows), [[-11]] * 256)

    def test_256_calls(self):
        rows = [("begin",)] + [REST, ("claim", 0, 0, 0, 1), ("unfact",)] * 85
        self.assertEqual(len(rows), 256)
        self.assertEqual(ask(*rows)[-3:], [[-28], [-2], [-6]])
        self.assertEqual(len(as_list([("letter", 0, 0, 0, 0)] * 256)), 1280)
        self.assertEqual(ask(*[("letter", 0, 0, 0, 0)] * 256), [[-11]] * 256)


class NothingKept(unittest.TestCase):
    def test_list_is_as_it_was(self):
        calls = as_list(ROWS)
        before = list(calls)
        answers(calls)
        self.assertEqual(calls, before)

    def test_list_is_not_changed_for_a_while_either(self):
        calls = Guarded(as_list((ROWS * 10)[:256]))
        self.assertEqual(answers(calls), answers(list(calls)))

    def test_second_call_answers_the_same(self):
        calls = as_list(ROWS)
        self.assertEqual(answers(calls), answers(calls))

    def test_a_new_object_each_time(self):
        answers(as_list(ROWS))
        self.assertEqual(ask(("is_station", 0)), [[-11]])
        self.assertEqual(ask(("begin",), ("is_station", 0)), [[0], [-2]])

    def test_what_is_given_back_is_the_askers_own(self):
        calls = as_list(ROWS)
        given = answers(calls)
        right = list(given)
        given.clear()
        self.assertEqual(answers(calls), right)


class NotBegun(unittest.TestCase):
    def test_every_other_call(self):
        for number in range(1, 25):
            self.assertEqual(answers([number] + [1] * ARGUMENTS[number]), [1, -11], NAMES[number])

    def test_ahead_of_every_other_refusal(self):
        rows = [("station", 100, 0, 0, 0), ("fact", BIG, 1000, 0), ("letter", 0, 0, 0, 0), ("unfact",),
                ("unletter",), ("claim", 9, 9, 0, 0), ("is_station", BIG), ("in_letter", BIG), ("known", BIG, 1000, 0),
                ("could", BIG, 1000, 0), ("knew", BIG, BIG), ("late", 0, 0), ("sooner", BIG, BIG, BIG), ("heard", 0, 0),
                ("never", BIG), ("book",), ("back",), ("state",)]
        self.assertEqual(ask(*rows), [[-11]] * len(rows))

    def test_what_is_asked_ahead_of_begin_leaves_nothing(self):
        self.assertEqual(ask(REST, ("begin",), ("is_station", 0), REST), [[-11], [0], [-2], [0]])
        self.assertEqual(ask(REST, ("back",), ("begin",), ("state",), ("back",)),
                         [[-11], [-11], [0], [0, 0, 0, 0], [-6]])


class AnyValue(unittest.TestCase):
    def test_ends_of_each_kind(self):
        low, high = -2147483648, 2147483647
        given = [REST, RIGHT, ("fact", 0, 0, 1), ("letter", 0, 1, 0, 1)]
        for n in (low, high):
            self.assertEqual(after(given, ("station", n, 0, 1, 1), ("station", 0, n, 1, 1), ("fact", 0, n, 1),
                                   ("letter", 0, 1, n, 1), ("claim", 0, 0, n, 1), ("known", 0, n, 1),
                                   ("could", 0, n, 1)), [[-22]] * 7)
        self.assertEqual(after(given, ("station", 0, 0, BIG, 1), ("station", 0, 0, 1, BIG), ("fact", 0, 0, BIG),
                               ("letter", 0, 1, 0, BIG), ("claim", 0, 0, 0, BIG), ("known", 0, 0, BIG),
                               ("could", 0, 0, BIG)), [[-22]] * 7)
        self.assertEqual(after(given, ("fact", BIG, 0, 1), ("letter", BIG, 1, 0, 1), ("letter", 0, BIG, 0, 1),
                               ("claim", BIG, 0, 0, 1), ("claim", 0, BIG, 0, 1)), [[-2]] * 5)
        looks = ("is_station", "factis", "letteris", "where", "comes", "in_letter", "never")
        self.assertEqual(after(given, *[(name, BIG) for name in looks]), [[-2]] * 7)
        for name in ("first", "knew", "late", "own", "heard"):
            self.assertEqual(after(given, (name, BIG, 0), (name, 0, BIG), (name, BIG, BIG)), [[-2]] * 3)
        self.assertEqual(after(given, ("sooner", BIG, 0, 0), ("sooner", 0, BIG, 0), ("sooner", 0, 0, BIG),
                               ("known", BIG, 0, 1), ("could", BIG, 0, 1)), [[-2]] * 5)

    def test_a_refusal_is_its_number_alone_and_no_other_answer_begins_below_0(self):
        stations = [REST, RIGHT, LEFT, ("station", -50, 60, 1, 9)]
        given = stations + [("fact", f % 4, -99 * f, 7) for f in range(6)] + [("letter", 3, 0, -9, 1)]
        looks = [row for f in range(7) for row in (("where", f), ("own", 0, f), ("knew", 0, f), ("first", 3, f),
                                                   ("factis", f), ("heard", f, 0), ("late", 3, f))]
        for row, answer in zip(looks, after(given, *looks)):
            self.assertIn(len(answer), (1,) if answer[0] < 0 or row[0] == "heard" else (3, 5), row)
            self.assertIn(answer[0] < 0 and answer, (False, [-2], [-33]), row)


if __name__ == "__main__":
    unittest.main()
