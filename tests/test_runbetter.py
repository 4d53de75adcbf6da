"""runbetter: as run, with the code made smaller; its cells are those that the code as it stands writes."""

import unittest

from tests.helper import (
    BETTER, MOST, SHOWS, ask, code, last, made_up_code, made_up_words, num, play_told, read, rows_of, run, runbetter,
    say, shown, write)


class RunbetterTest(unittest.TestCase):
    def test_no_rows(self):
        self.assertEqual(ask(runbetter(9)), [[0, 0]])
        self.assertEqual(ask(code(2), runbetter(9, 1, 2)), [[2], [0, 0]])

    def test_said_by_names_that_stand_for_others(self):
        self.assertEqual(
            last(code(1), num(5), num(5), write(2, 1, 0, 2), read(2, 1, 0), say(3), say(2), say(0), runbetter(0, 8)),
            [3, 5, 5, 8, 0])

    def test_names_that_rows_gone_leave_out(self):
        self.assertEqual(last(code(1), num(5), num(6), num(7), say(3), runbetter(0, 8)), [1, 7, 0])

    def test_a_cell_that_the_code_made_smaller_does_not_write(self):
        calls = (code(1), read(0, 1, 2), write(0, 1, 2, 1))
        self.assertEqual(last(*calls, BETTER), [1, 0])
        self.assertEqual(last(*calls, runbetter(7, 10)), [0, 1, 0, 12, 95035])
        self.assertEqual(last(*calls, runbetter(7, MOST)), [0, 1, 0, 1, 7926])

    def test_such_a_cell_beside_others(self):
        calls = (code(1), read(1, 0, 4), write(1, 0, 4, 1), write(1, 1, 0, 0), write(0, 0, 9, 0), write(2, 0, 1, 0))
        self.assertEqual(last(*calls, BETTER), shown(1, (2, 1, 1, 0, 0), (2, 0, 0, 9, 0)))
        self.assertEqual(last(*calls, runbetter(1, 3)), [0, 3, 0, 9, 3, 1, 3, 3, 1, 4, 1031680])
        self.assertEqual(last(*calls, runbetter(1, 4)), [0, 2, 0, 9, 4, 1, 4, 4])

    def test_cells_of_2_and_3_are_not_told(self):
        self.assertEqual(
            last(code(1), write(2, 1, 0, 0), write(3, 0, 0, 0), read(2, 0, 6), say(1), runbetter(0, 6)), [1, 6, 0])

    def test_places_that_are_the_same_cell(self):
        calls = (code(2), write(0, 1, 0, 0), write(0, 2, 1, 1), write(0, 1, 0, 1), read(0, 2, 1), say(2))
        self.assertEqual(last(*calls, runbetter(0, 5, 4)), [1, 4, 1, 0, 5, 4])
        self.assertEqual(last(*calls, runbetter(0, 5, 7)), [1, 7, 2, 0, 5, 7, 0, 8, 7])

    def test_the_code_itself_stays(self):
        calls = (code(1), num(5), num(5), write(0, 1, 0, 2), write(0, 1, 0, 1))
        self.assertEqual(
            ask(*calls, runbetter(0, 3), SHOWS, runbetter(0, 3))[-3:],
            [[0, 1, 0, 3, 5], last(*calls, SHOWS), [0, 1, 0, 3, 5]])


class ManyCodesTest(unittest.TestCase):
    def test_runbetter_answers_what_run_answers(self):
        smaller = 0
        for seed in range(1500):
            k, calls = made_up_code(seed)
            rows = rows_of(k, calls)
            asked = []
            for s in (0, 1, MOST, seed * 7654321):
                words = made_up_words((seed + 1) * (s + 1), k)
                asked.extend([run(s, *words), runbetter(s, *words)])
            told = ask(code(k), *calls, *asked, SHOWS, BETTER)
            for at in range(len(calls) + 1, len(told) - 2, 2):
                self.assertEqual(told[at], told[at + 1], (rows, asked))
            self.assertEqual(told[-2], shown(k, *rows))
            self.assertEqual(told[-3], play_told(rows, s, words))
            smaller += told[-1][1] < len(rows)
        self.assertGreater(smaller, 1000)


if __name__ == "__main__":
    unittest.main()
