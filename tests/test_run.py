"""run: words that are said, and the cells of 0 and 1 that are written."""

import unittest

from tests.helper import (
    MOST, SHOWS, ask, code, first_in, last, made_up_code, made_up_words, num, play_told, read, rows_of, run, say,
    write)


class SaidTest(unittest.TestCase):
    def test_no_rows_at_all(self):
        self.assertEqual(ask(run(0)), [[0, 0]])
        self.assertEqual(ask(run(MOST)), [[0, 0]])
        self.assertEqual(ask(code(4), run(3, 1, 2, 3, 4)), [[4], [0, 0]])

    def test_words_are_said_in_the_order_of_the_rows(self):
        self.assertEqual(
            last(code(2), say(1), say(0), num(9), say(2), say(0), run(5, 7, 8)), [4, 8, 7, 9, 7, 0])

    def test_least_and_greatest_words(self):
        self.assertEqual(
            last(code(2), num(MOST), say(0), say(1), say(2), run(0, 0, MOST)), [3, 0, MOST, MOST, 0])

    def test_each_of_four_words_has_its_name(self):
        self.assertEqual(
            last(code(4), say(0), say(1), say(2), say(3), run(0, 40, 30, 20, 10)), [4, 40, 30, 20, 10, 0])

    def test_16_words_said(self):
        self.assertEqual(last(code(1), *[say(0)] * 16, run(0, 6)), [16, *[6] * 16, 0])

    def test_rows_that_say_and_write_nothing(self):
        self.assertEqual(last(code(1), num(4), read(0, 1, 0), run(0, 6)), [0, 0])


class FirstTest(unittest.TestCase):
    def test_by_hand(self):
        for cells, cell, s, word in (
                (0, 0, 0, 0),
                (1, 0, 0, 1000003),
                (2, 0, 0, 2000006),
                (3, 0, 0, 3000009),
                (0, 1, 0, 7919),
                (0, 0, 1, 1),
                (1, 1, 1, 1007923),
                (0, MOST, 0, 4294959377),
                (0, 0, MOST, MOST),
                (0, MOST, MOST, 4294959376),
                (1, 0, MOST, 1000002),
                (3, MOST, MOST, 2992089)):
            self.assertEqual(last(read(cells, 0, cell), say(0), run(s)), [1, word, 0], (cells, cell, s))

    def test_all_rows_of_cells(self):
        for cells in range(4):
            for cell in (0, 1, 542363, 542364, 2147483648, MOST - 1, MOST):
                for s in (0, 1, 2147483648, MOST - 1, MOST):
                    self.assertEqual(
                        last(read(cells, 0, cell), say(0), run(s)), [1, first_in(cells, cell, s), 0])

    def test_the_same_s_is_there_in_every_row_of_cells(self):
        self.assertEqual(
            last(*[read(cells, 0, 2) for cells in range(4)], *[say(name) for name in range(4)], run(10)),
            [4, 15848, 1015851, 2015854, 3015857, 0])


class CellsTest(unittest.TestCase):
    def test_lesser_row_of_cells_first_then_lesser_cell(self):
        self.assertEqual(
            last(code(1), num(70), num(80), num(90),
                 write(1, 0, 5, 0), write(0, 0, 9, 1), write(1, 0, 0, 2), write(0, 0, 3, 3), run(0, 60)),
            [0, 4, 0, 3, 90, 0, 9, 70, 1, 0, 80, 1, 5, 60])

    def test_the_order_is_that_of_cells_not_of_places(self):
        told = last(code(2), write(0, 0, 50, 0), write(0, 1, 7, 0), write(0, 2, 1, 0), write(0, 0, 100, 0),
                    run(0, MOST, 59))
        self.assertEqual(told, [0, 4, 0, 6, MOST, 0, 50, MOST, 0, 60, MOST, 0, 100, MOST])

    def test_cells_of_2_and_3_are_not_told(self):
        self.assertEqual(
            last(code(1), write(2, 0, 0, 0), write(3, 0, 0, 0), write(2, 1, 4, 0), run(0, 7)), [0, 0])
        self.assertEqual(
            last(code(1), write(3, 0, 2, 0), write(1, 0, 1, 0), write(2, 0, 0, 0), run(0, 7)), [0, 1, 1, 1, 7])

    def test_each_row_of_cells_has_cells_of_its_own(self):
        self.assertEqual(
            last(*[num(10 + cells) for cells in range(4)], *[write(cells, 0, 3, cells) for cells in range(4)],
                 *[read(cells, 0, 3) for cells in range(4)], say(7), say(6), say(5), say(4), run(0)),
            [4, 13, 12, 11, 10, 2, 0, 3, 10, 1, 3, 11])

    def test_a_cell_written_again_is_told_once_with_its_last_word(self):
        self.assertEqual(last(code(2), write(0, 1, 3, 0), write(0, 1, 3, 1), run(0, 5, 6)), [0, 1, 0, 8, 6])

    def test_two_places_that_turn_out_to_be_the_same_cell(self):
        calls = (code(2), write(0, 1, 3, 0), write(0, 2, 1, 1))
        self.assertEqual(last(*calls, run(0, 5, 7)), [0, 1, 0, 8, 7])
        self.assertEqual(last(*calls, run(0, 5, 8)), [0, 2, 0, 8, 5, 0, 9, 8])
        self.assertEqual(last(*calls, run(0, 5, 6)), [0, 2, 0, 7, 6, 0, 8, 5])

    def test_a_fixed_place_and_one_of_a_word_that_are_the_same_cell(self):
        calls = (code(1), num(1), num(2), write(1, 0, 4, 1), write(1, 1, 0, 2), read(1, 0, 4), say(3))
        self.assertEqual(last(*calls, run(0, 4)), [1, 2, 1, 1, 4, 2])
        self.assertEqual(last(*calls, run(0, 3)), [1, 1, 2, 1, 3, 2, 1, 4, 1])

    def test_places_whose_cell_goes_over_the_greatest_word(self):
        self.assertEqual(last(code(1), write(0, 1, 1, 0), run(0, MOST)), [0, 1, 0, 0, MOST])
        self.assertEqual(last(code(1), write(0, 1, 0, 0), run(0, MOST)), [0, 1, 0, MOST, MOST])
        self.assertEqual(last(code(1), write(0, 1, MOST, 0), run(0, MOST)), [0, 1, 0, MOST - 1, MOST])
        self.assertEqual(last(code(1), write(1, 1, MOST, 0), run(0, 0)), [0, 1, 1, MOST, 0])
        self.assertEqual(last(code(1), read(2, 1, 3), say(1), run(1, MOST)), [1, 2000006 + 2 * 7919 + 1, 0])

    def test_a_cell_beyond_the_greatest_word_is_the_one_from_0_on(self):
        self.assertEqual(
            last(code(2), write(0, 0, 0, 1), write(0, 1, 2, 0), read(0, 0, 0), say(2), run(0, MOST - 1, 9)),
            [1, MOST - 1, 1, 0, 0, MOST - 1])

    def test_each_base_takes_its_own_word(self):
        self.assertEqual(
            last(code(4), *[write(0, base, 1, base - 1) for base in (4, 3, 2, 1)], run(0, 10, 20, 30, 40)),
            [0, 4, 0, 11, 10, 0, 21, 20, 0, 31, 30, 0, 41, 40])

    def test_a_place_is_told_by_words_handed_over_not_by_names_of_rows(self):
        self.assertEqual(last(code(1), num(100), write(0, 1, 0, 1), run(0, 5)), [0, 1, 0, 5, 100])

    def test_16_cells(self):
        told = last(code(1), *[write(1, 0, 15 - c, 0) for c in range(16)], run(0, 8))
        expected = [0, 16]
        for c in range(16):
            expected.extend([1, c, 8])
        self.assertEqual(told, expected)


class OrderTest(unittest.TestCase):
    def test_a_read_takes_the_word_that_is_there_by_then(self):
        self.assertEqual(
            last(code(2), read(0, 0, 1), write(0, 0, 1, 0), read(0, 0, 1), write(0, 0, 1, 1), read(0, 0, 1),
                 say(2), say(3), say(4), run(3, 50, 60)),
            [3, 7922, 50, 60, 1, 0, 1, 60])

    def test_a_name_keeps_its_word_when_the_cell_is_written(self):
        self.assertEqual(
            last(code(1), read(1, 0, 0), write(1, 0, 0, 0), write(1, 0, 1, 1), run(0, 9)),
            [0, 2, 1, 0, 9, 1, 1, 1000003])

    def test_cells_of_2_and_3_hold_what_is_written(self):
        for cells in (2, 3):
            self.assertEqual(
                last(code(1), write(cells, 1, 0, 0), read(cells, 0, 6), say(1), run(0, 6)), [1, 6, 0])

    def test_one_run_leaves_nothing_for_the_next(self):
        calls = (code(1), read(0, 0, 2), say(1), write(0, 0, 2, 0))
        told = ask(*calls, run(1, 6), run(1, 6), run(2, 7), SHOWS)[4:]
        self.assertEqual(told[:3], [[1, 15839, 1, 0, 2, 6], [1, 15839, 1, 0, 2, 6], [1, 15840, 1, 0, 2, 7]])
        self.assertEqual(told[3], last(*calls, SHOWS))


class ManyRunsTest(unittest.TestCase):
    def test_as_done_row_by_row(self):
        for seed in range(400):
            k, calls = made_up_code(seed)
            rows = rows_of(k, calls)
            for s in (0, MOST, seed * 7654321):
                words = made_up_words((seed + 1) * (s + 1), k)
                self.assertEqual(last(code(k), *calls, run(s, *words)), play_told(rows, s, words), (rows, s, words))


if __name__ == "__main__":
    unittest.main()
