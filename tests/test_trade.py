"""trade: whether a row and the one behind it may change places."""

import itertools
import unittest

from tests.helper import (
    MOST, SHOWS, ask, code, last, made_up_code, made_up_words, num, play, read, rows_of, say, trade, write)


class TradeTest(unittest.TestCase):
    """The codes are handed two words; the first of the two rows, if it gives a name, gives 2."""

    def trade_is(self, number, row, behind):
        self.assertEqual(last(code(2), row, behind, trade(0)), [number], (row, behind))

    def trades(self, row, behind):
        self.trade_is(1, row, behind)

    def stays(self, row, behind):
        self.trade_is(0, row, behind)


class NumberTest(TradeTest):
    def test_two_numbers(self):
        self.trades(num(5), num(5))
        self.trades(num(5), num(6))

    def test_number_and_read(self):
        for cells in range(4):
            for base in range(3):
                self.trades(num(5), read(cells, base, 5))
                self.trades(read(cells, base, 5), num(5))

    def test_number_ahead_of_a_write_of_its_name_and_of_another(self):
        for cells in range(4):
            self.stays(num(5), write(cells, 1, 0, 2))
            self.trades(num(5), write(cells, 1, 0, 1))
            self.trades(num(5), write(cells, 1, 2, 0))

    def test_number_ahead_of_a_say_of_its_name_and_of_another(self):
        self.stays(num(5), say(2))
        self.trades(num(5), say(0))
        self.trades(num(5), say(1))

    def test_number_behind_a_write_or_say(self):
        self.trades(write(0, 1, 0, 0), num(0))
        self.trades(say(0), num(0))


class SayTest(TradeTest):
    def test_two_says(self):
        self.trades(say(0), say(0))
        self.trades(say(1), say(1))
        self.stays(say(0), say(1))
        self.stays(say(1), say(0))

    def test_two_says_of_two_names_of_one_word(self):
        self.assertEqual(last(num(5), num(5), say(0), say(1), trade(2)), [0])

    def test_say_behind_a_read_of_its_name_and_of_another(self):
        self.stays(read(0, 1, 0), say(2))
        self.trades(read(0, 1, 0), say(1))
        self.trades(read(0, 1, 0), say(0))

    def test_say_ahead_of_a_read(self):
        self.trades(say(0), read(0, 1, 0))

    def test_say_and_write(self):
        for name, other in itertools.product((0, 1), repeat=2):
            self.trades(say(name), write(0, 1, 0, other))
            self.trades(write(0, 1, 0, other), say(name))


class CellsTest(TradeTest):
    ALIKE = (((0, 5), (0, 5)), ((1, 5), (1, 5)), ((2, MOST), (2, MOST)))
    NEVER_SAME = (((0, 5), (0, 6)), ((1, 6), (1, 5)), ((2, MOST), (2, 0)))
    NEITHER = (((0, 5), (1, 5)), ((1, 6), (0, 5)), ((1, 5), (2, 5)), ((2, MOST), (1, 0)))

    def test_two_reads(self):
        for place, other in self.ALIKE + self.NEVER_SAME + self.NEITHER:
            self.trades(read(0, *place), read(0, *other))
            self.trades(read(0, *place), read(1, *other))

    def test_read_ahead_of_a_write(self):
        for name in (0, 1):
            for place, other in self.ALIKE + self.NEITHER:
                self.stays(read(0, *place), write(0, *other, name))
                self.stays(read(3, *place), write(3, *other, name))
                self.trades(read(0, *place), write(1, *other, name))
            for place, other in self.NEVER_SAME:
                self.trades(read(0, *place), write(0, *other, name))
                self.trades(read(0, *place), write(2, *other, name))

    def test_read_ahead_of_a_write_of_its_name(self):
        for place, other in self.ALIKE + self.NEVER_SAME + self.NEITHER:
            self.stays(read(0, *place), write(0, *other, 2))
            self.stays(read(0, *place), write(1, *other, 2))

    def test_write_ahead_of_a_read(self):
        for place, other in self.ALIKE + self.NEITHER:
            self.stays(write(0, *place, 0), read(0, *other))
            self.stays(write(2, *place, 1), read(2, *other))
            self.trades(write(0, *place, 0), read(1, *other))
        for place, other in self.NEVER_SAME:
            self.trades(write(0, *place, 0), read(0, *other))
            self.trades(write(0, *place, 0), read(3, *other))

    def test_two_writes_of_two_names(self):
        for name, other_name in ((0, 1), (1, 0)):
            for place, other in self.ALIKE + self.NEITHER:
                self.stays(write(1, *place, name), write(1, *other, other_name))
                self.trades(write(1, *place, name), write(0, *other, other_name))
            for place, other in self.NEVER_SAME:
                self.trades(write(1, *place, name), write(1, *other, other_name))
                self.trades(write(1, *place, name), write(2, *other, other_name))

    def test_two_writes_of_one_name(self):
        for place, other in self.ALIKE + self.NEVER_SAME + self.NEITHER:
            self.trades(write(1, *place, 1), write(1, *other, 1))
            self.trades(write(1, *place, 1), write(3, *other, 1))

    def test_two_writes_of_two_names_of_one_word(self):
        self.assertEqual(last(num(5), num(5), write(0, 0, 0, 0), write(0, 0, 0, 1), trade(2)), [0])


class WhichRowsTest(TradeTest):
    ROWS = (code(1), say(0), num(5), say(1), write(0, 0, 0, 1), write(0, 1, 0, 1), write(0, 1, 0, 0), read(0, 1, 1))

    def test_each_row_of_a_code(self):
        self.assertEqual(
            ask(*self.ROWS, *[trade(r) for r in range(6)])[-6:], [[1], [0], [1], [1], [0], [1]])

    def test_a_name_given_by_a_row_further_ahead_does_not_matter(self):
        self.assertEqual(last(num(5), num(6), say(0), trade(1)), [1])
        self.assertEqual(last(num(5), num(6), say(1), trade(1)), [0])

    def test_the_row_behind_the_two_does_not_matter(self):
        self.assertEqual(last(num(5), num(6), say(0), trade(0)), [1])

    def test_16_rows(self):
        self.assertEqual(last(code(2), *[say(0)] * 14, say(1), say(1), trade(14)), [1])
        self.assertEqual(last(code(2), *[say(0)] * 15, say(1), trade(14)), [0])

    def test_trade_changes_nothing(self):
        self.assertEqual(
            ask(*self.ROWS, trade(0), trade(1), SHOWS)[-1], last(*self.ROWS, SHOWS))


class EveryRunTest(TradeTest):
    def test_rows_that_may_change_places_leave_every_run_as_it_was(self):
        found = 0
        for seed in range(200):
            k, calls = made_up_code(seed)
            rows = rows_of(k, calls)
            for r in range(len(rows) - 1):
                if last(code(k), *calls, trade(r)) == [1]:
                    found += 1
                    traded = rows[:r] + [rows[r + 1], rows[r]] + rows[r + 2:]
                    for words_seed in range(4):
                        words = made_up_words(words_seed, k)
                        self.assertEqual(play(traded, seed, words), play(rows, seed, words), (rows, r, words))
        self.assertGreater(found, 200)


if __name__ == "__main__":
    unittest.main()
