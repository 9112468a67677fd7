"""Lines of all calls, made from fixed seeds, against the slow model of the words."""

import unittest

from asking import NAMES, as_list, ask, look
from desks import all_desks, every_look, some_line
from model import Model
from whohearddesk.letters import answers


class AgainstTheModel(unittest.TestCase):
    def test_lines_of_256_calls(self):
        asked = set()
        for seed in range(100):
            rows = some_line(seed, 256)
            self.assertEqual(len(rows), 256)
            asked |= {row[0] for row in rows}
            model = Model()
            for number, (row, given) in enumerate(zip(rows, ask(*rows))):
                self.assertEqual(given, model.answer(row), (seed, number, row))
        self.assertEqual(asked, set(NAMES))

    def test_every_look_at_many_desks(self):
        for number, rows in enumerate(all_desks(12)):
            model = Model()
            for row in [("begin",)] + rows:
                model.answer(row)
            looks = every_look(rows)
            for row, given in zip(looks, look(rows, looks)):
                self.assertEqual(given, model.answer(row), (number, row))

    def test_the_list_is_as_it_was_and_a_second_call_answers_the_same(self):
        for seed in range(100):
            calls = as_list(some_line(seed, 256))
            before = list(calls)
            given = answers(calls)
            self.assertEqual(calls, before, seed)
            self.assertEqual(answers(calls), given, seed)


if __name__ == "__main__":
    unittest.main()
