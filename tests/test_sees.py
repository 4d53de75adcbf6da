"""sees: which writes a read may see, and whether it may see what was there at first."""

import itertools
import unittest

from tests.helper import (
    MOST, SHOWS, ask, cell_of, code, last, made_up_code, num, read, rows_of, say, sees, write)


class OneWriteTest(unittest.TestCase):
    def test_behind_no_write(self):
        self.assertEqual(last(read(0, 0, 0), sees(0)), [1, 0])
        self.assertEqual(last(code(1), num(4), say(1), read(3, 1, MOST), sees(2)), [1, 0])

    def test_alike(self):
        for cells in range(4):
            for base in (0, 1, 2):
                for c in (0, 7, MOST):
                    self.assertEqual(
                        last(code(2), write(cells, base, c, 0), read(cells, base, c), sees(1)), [0, 1, 0])

    def test_never_the_same(self):
        for base in (0, 1, 2):
            for c, other in ((5, 6), (6, 5), (0, MOST), (MOST, 0)):
                self.assertEqual(
                    last(code(2), write(0, base, c, 0), read(0, base, other), sees(1)), [1, 0])

    def test_neither(self):
        for base, other in ((0, 1), (1, 0), (1, 2), (2, 1), (0, 2), (4, 3)):
            for c, other_c in ((5, 5), (5, 6), (0, MOST), (MOST, 0)):
                self.assertEqual(
                    last(code(4), write(2, base, c, 0), read(2, other, other_c), sees(1)), [1, 1, 0])

    def test_in_another_row_of_cells(self):
        for cells, other in itertools.permutations(range(4), 2):
            self.assertEqual(last(code(1), write(cells, 1, 5, 0), read(other, 1, 5), sees(1)), [1, 0])
            self.assertEqual(last(code(1), write(cells, 0, 5, 0), read(other, 1, 5), sees(1)), [1, 0])

    def test_a_write_behind_the_read(self):
        calls = (code(1), read(0, 1, 5), write(0, 1, 5, 0), write(0, 0, 5, 0))
        self.assertEqual(last(*calls, sees(0)), [1, 0])
        self.assertEqual(last(*calls, read(0, 1, 5), sees(3)), [0, 2, 1, 2])


class SeveralWritesTest(unittest.TestCase):
    def test_two_of_two_bases(self):
        self.assertEqual(
            last(code(2), write(0, 1, 0, 0), write(0, 2, 0, 0), read(0, 1, 0), sees(2)), [0, 2, 0, 1])

    def test_one_alike_to_the_read_is_between(self):
        self.assertEqual(
            last(code(2), write(0, 2, 0, 0), write(0, 1, 0, 0), read(0, 1, 0), sees(2)), [0, 1, 1])
        self.assertEqual(
            last(code(2), write(0, 1, 0, 0), write(0, 1, 0, 1), read(0, 1, 0), sees(2)), [0, 1, 1])

    def test_one_alike_to_the_write_is_between(self):
        self.assertEqual(
            last(code(2), write(0, 2, 0, 0), write(0, 2, 0, 1), read(0, 1, 0), sees(2)), [1, 1, 1])
        self.assertEqual(
            last(code(2), write(0, 2, 0, 0), write(0, 2, 0, 0), read(0, 1, 0), sees(2)), [1, 1, 1])

    def test_one_never_the_same_as_the_write_is_between(self):
        self.assertEqual(
            last(code(2), write(0, 2, 0, 0), write(0, 2, 1, 0), read(0, 1, 0), sees(2)), [1, 2, 0, 1])

    def test_one_never_the_same_as_the_read_is_between(self):
        self.assertEqual(
            last(code(2), write(0, 2, 0, 0), write(0, 1, 1, 0), read(0, 1, 0), sees(2)), [1, 1, 0])
        self.assertEqual(
            last(code(2), write(0, 1, 0, 0), write(0, 1, 1, 0), read(0, 1, 0), sees(2)), [0, 1, 0])

    def test_one_that_is_neither_is_between(self):
        self.assertEqual(
            last(code(2), write(0, 2, 0, 0), write(0, 0, 3, 0), read(0, 1, 0), sees(2)), [1, 2, 0, 1])

    def test_one_of_another_row_of_cells_is_between(self):
        for base in (1, 2):
            self.assertEqual(
                last(code(2), write(0, 2, 0, 0), write(1, base, 0, 0), read(0, 1, 0), sees(2)), [1, 1, 0])
            self.assertEqual(
                last(code(2), write(0, 1, 0, 0), write(1, base, 0, 0), read(0, 1, 0), sees(2)), [0, 1, 0])

    def test_other_rows_between_hide_nothing(self):
        self.assertEqual(
            last(code(2), write(0, 2, 0, 0), read(0, 2, 0), read(0, 1, 0), num(4), say(1), read(0, 1, 0), sees(5)),
            [1, 1, 0])

    def test_what_is_ahead_of_one_alike_stays_hidden(self):
        self.assertEqual(
            last(code(2), write(0, 1, 0, 0), write(0, 2, 3, 0), write(0, 1, 0, 0), write(0, 2, 4, 0),
                 write(0, 2, 3, 0), read(0, 1, 0), sees(5)),
            [0, 3, 2, 3, 4])

    def test_each_read_of_a_code_is_asked_for_itself(self):
        calls = (code(2), read(1, 1, 0), write(1, 2, 0, 0), read(1, 1, 0), write(1, 1, 0, 1), read(1, 1, 0),
                 read(1, 2, 0))
        self.assertEqual(
            ask(*calls, sees(0), sees(2), sees(4), sees(5))[-4:],
            [[1, 0], [1, 1, 1], [0, 1, 3], [0, 2, 1, 3]])

    def test_fixed_cells(self):
        self.assertEqual(
            last(num(1), write(0, 0, 3, 0), write(0, 0, 4, 0), write(0, 0, 3, 0), read(0, 0, 3), sees(4)),
            [0, 1, 3])

    def test_15_writes(self):
        bases = (0, 1, 2, 3, 4) * 3
        calls = (code(4), *[write(0, base, at, 0) for at, base in enumerate(bases)])
        self.assertEqual(
            last(*calls, read(0, 1, MOST), sees(15)), [1, 12, 0, 2, 3, 4, 5, 7, 8, 9, 10, 12, 13, 14])
        self.assertEqual(
            last(*calls, read(0, 1, 6), sees(15)), [0, 8, 6, 7, 8, 9, 10, 12, 13, 14])

    def test_sees_changes_nothing(self):
        calls = (code(2), write(0, 2, 0, 0), read(0, 1, 0))
        self.assertEqual(ask(*calls, sees(1), SHOWS, sees(1))[-2:], [last(*calls, SHOWS), [1, 1, 0]])


class SomeWordsTest(unittest.TestCase):
    def words_to_try(self, k, rows):
        """For each base words that make its places meet those of another, and words that keep it away from all."""
        numbers = {row[-1] for row in rows if row[0] == 1} | {row[3] for row in rows if row[0] == 2}
        apart = {(c - other) % (MOST + 1) for c in numbers for other in numbers} | {0}
        meeting = apart | {1000000000 + difference for difference in apart}
        return itertools.product(*[sorted(meeting | {2000000000 + base * 500000000}) for base in range(k)])

    def seen_with(self, rows, reading, words):
        """The last write ahead of the same cell, or None."""
        read_row = rows[reading]
        seen = None
        for at, row in enumerate(rows[:reading]):
            if row[0] == 2 and row[1] == read_row[2]:
                if cell_of(row[2], row[3], words) == cell_of(read_row[3], read_row[4], words):
                    seen = at
        return seen

    def test_what_may_be_seen_is_what_some_words_show(self):
        for seed in range(150):
            k, calls = made_up_code(seed)
            rows = rows_of(k, calls)
            tried = list(self.words_to_try(k, rows))
            for at, row in enumerate(rows):
                if row[0] == 1:
                    seen = {self.seen_with(rows, at, words) for words in tried}
                    writes = sorted(seen - {None})
                    self.assertEqual(
                        last(code(k), *calls, sees(at)), [int(None in seen), len(writes), *writes], (rows, at))


if __name__ == "__main__":
    unittest.main()
