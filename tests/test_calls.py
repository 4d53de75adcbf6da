"""The calls code, num, read, write, say, shows on inputs that are not refused."""

import unittest

from tests.helper import MOST, SHOWS, ask, code, last, num, read, say, write


class CodeTest(unittest.TestCase):
    def test_at_the_beginning_nothing_is_handed_over_and_there_are_no_rows(self):
        self.assertEqual(ask(SHOWS), [[0, 0]])

    def test_code_answers_how_many_words_are_handed_over(self):
        for k in range(5):
            self.assertEqual(ask(code(k), SHOWS), [[k], [k, 0]])

    def test_code_behind_rows_leaves_no_rows(self):
        self.assertEqual(
            ask(code(2), num(7), say(2), code(3), SHOWS, num(8), SHOWS),
            [[2], [1], [2], [3], [3, 0], [1], [3, 1, 0, 3, 8]])

    def test_code_of_none_behind_rows(self):
        self.assertEqual(ask(code(4), say(3), code(0), SHOWS), [[4], [1], [0], [0, 0]])

    def test_code_of_the_same_count_also_leaves_no_rows(self):
        self.assertEqual(ask(code(1), say(0), code(1), SHOWS), [[1], [1], [1], [1, 0]])

    def test_code_behind_16_rows_makes_room(self):
        told = ask(code(1), *[say(0)] * 16, code(2), say(1), SHOWS)
        self.assertEqual(told[-3:], [[2], [1], [2, 1, 3, 1]])


class NumTest(unittest.TestCase):
    def test_least_and_greatest_number(self):
        self.assertEqual(
            ask(num(0), num(MOST), SHOWS),
            [[1], [2], [0, 2, 0, 0, 0, 0, 1, MOST]])

    def test_the_same_number_twice_gives_two_names(self):
        self.assertEqual(last(code(1), num(5), num(5), SHOWS), [1, 2, 0, 1, 5, 0, 2, 5])

    def test_names_are_counted_from_k_on(self):
        for k in range(5):
            self.assertEqual(last(code(k), num(9), SHOWS), [k, 1, 0, k, 9])


class ReadTest(unittest.TestCase):
    def test_read_at_a_fixed_cell_without_words(self):
        self.assertEqual(ask(read(0, 0, 0), SHOWS), [[1], [0, 1, 1, 0, 0, 0, 0]])

    def test_place_and_name_are_shown_in_their_order(self):
        self.assertEqual(ask(code(2), read(3, 1, 77), SHOWS), [[2], [1], [2, 1, 1, 2, 3, 1, 77]])

    def test_every_row_of_cells_base_and_the_edges_of_c(self):
        for k in range(5):
            for cells in range(4):
                for base in range(k + 1):
                    for c in (0, 1, MOST):
                        self.assertEqual(
                            ask(code(k), read(cells, base, c), SHOWS),
                            [[k], [1], [k, 1, 1, k, cells, base, c]])


class WriteTest(unittest.TestCase):
    def test_place_and_name_are_shown_in_their_order(self):
        self.assertEqual(ask(code(3), write(1, 2, 99, 0), SHOWS), [[3], [1], [3, 1, 2, 1, 2, 99, 0]])

    def test_every_row_of_cells_base_name_and_the_edges_of_c(self):
        for k in range(1, 5):
            for cells in range(4):
                for base in range(k + 1):
                    for c in (0, MOST):
                        for v in range(k):
                            self.assertEqual(
                                ask(code(k), write(cells, base, c, v), SHOWS),
                                [[k], [1], [k, 1, 2, cells, base, c, v]])

    def test_a_write_gives_no_name(self):
        self.assertEqual(
            last(code(1), write(0, 0, 0, 0), num(6), SHOWS),
            [1, 2, 2, 0, 0, 0, 0, 0, 1, 6])

    def test_a_name_that_a_row_gives_is_written(self):
        self.assertEqual(
            ask(num(6), write(2, 0, 5, 0), SHOWS),
            [[1], [2], [0, 2, 0, 0, 6, 2, 2, 0, 5, 0]])


class SayTest(unittest.TestCase):
    def test_a_word_that_is_handed_over(self):
        self.assertEqual(ask(code(4), say(0), say(3), SHOWS), [[4], [1], [2], [4, 2, 3, 0, 3, 3]])

    def test_names_that_rows_give(self):
        self.assertEqual(
            last(code(1), num(8), read(0, 1, 0), say(1), say(2), SHOWS),
            [1, 4, 0, 1, 8, 1, 2, 0, 1, 0, 3, 1, 3, 2])

    def test_say_gives_no_name(self):
        self.assertEqual(last(code(2), say(1), read(1, 0, 3), SHOWS), [2, 2, 3, 1, 1, 2, 1, 0, 3])


class ShowsTest(unittest.TestCase):
    def test_all_four_kinds_of_rows(self):
        self.assertEqual(
            ask(code(2), num(MOST), write(1, 2, MOST, 2), read(3, 1, 4), say(3), num(0), write(0, 0, 9, 4), SHOWS),
            [[2], [1], [2], [3], [4], [5], [6],
             [2, 6,
              0, 2, MOST,
              2, 1, 2, MOST, 2,
              1, 3, 3, 1, 4,
              3, 3,
              0, 4, 0,
              2, 0, 0, 9, 4]])

    def test_names_of_numbers_and_reads_are_counted_together_from_k_on(self):
        for k in range(5):
            self.assertEqual(
                last(code(k), read(0, 0, 1), num(2), say(k), read(1, 0, 3), write(2, 0, 4, k + 1), num(5), SHOWS),
                [k, 6,
                 1, k, 0, 0, 1,
                 0, k + 1, 2,
                 3, k,
                 1, k + 2, 1, 0, 3,
                 2, 2, 0, 4, k + 1,
                 0, k + 3, 5])

    def test_shows_changes_nothing(self):
        self.assertEqual(
            ask(code(1), SHOWS, SHOWS, num(4), SHOWS, SHOWS, say(1), SHOWS),
            [[1], [1, 0], [1, 0], [1], [1, 1, 0, 1, 4], [1, 1, 0, 1, 4], [2], [1, 2, 0, 1, 4, 3, 1]])

    def test_sixteen_rows_of_the_longest_kind(self):
        told = last(code(4), *[write(3, 4, c, 3) for c in range(16)], SHOWS)
        expected = [4, 16]
        for c in range(16):
            expected.extend([2, 3, 4, c, 3])
        self.assertEqual(told, expected)

    def test_names_go_on_to_the_last_of_16_rows(self):
        told = last(code(4), *[num(100 + i) for i in range(16)], SHOWS)
        expected = [4, 16]
        for i in range(16):
            expected.extend([0, 4 + i, 100 + i])
        self.assertEqual(told, expected)


if __name__ == "__main__":
    unittest.main()
