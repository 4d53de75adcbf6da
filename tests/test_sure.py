"""sure: the name that is sure in a place behind all rows, rule by rule."""

import unittest

from tests.helper import (
    MOST, SHOWS, ask, cell_of, code, first_in, last, made_up_code, made_up_words, num, play, read, rows_of, say, sure,
    write)


class SureTest(unittest.TestCase):
    """The codes are handed two words, so that rows give the names from 2 on; asked for is mostly 0, 1, 5."""

    def sure_is(self, rows, name, place=(0, 1, 5)):
        self.assertEqual(last(code(2), *rows, sure(*place)), [1, name], rows)

    def nothing_sure(self, rows, place=(0, 1, 5)):
        self.assertEqual(last(code(2), *rows, sure(*place)), [0], rows)


class FirstRowTest(SureTest):
    def test_without_rows(self):
        self.nothing_sure(())
        self.assertEqual(ask(sure(0, 0, 0), sure(3, 0, MOST)), [[0], [0]])

    def test_numbers_and_says(self):
        self.nothing_sure((num(5), say(0), say(2)))

    def test_a_write_that_has_counted(self):
        self.nothing_sure((write(0, 2, 5, 0),))
        self.nothing_sure((write(0, 0, 5, 0), write(0, 2, 5, 0)))

    def test_only_rows_that_are_passed_over(self):
        self.nothing_sure((write(0, 1, 6, 0), read(0, 1, 4), read(0, 2, 5), write(1, 1, 5, 0), read(1, 1, 5)))


class WriteTest(SureTest):
    def test_alike(self):
        for cells in range(4):
            for base in range(3):
                for c in (0, 5, MOST):
                    for name in (0, 1):
                        self.sure_is((write(cells, base, c, name),), name, (cells, base, c))

    def test_the_last_one_alike(self):
        self.sure_is((write(0, 1, 5, 0), write(0, 1, 5, 1)), 1)
        self.sure_is((write(0, 1, 5, 1), write(0, 1, 5, 0)), 0)

    def test_never_the_same_is_passed_over(self):
        for c in (4, 6, 0, MOST):
            self.sure_is((write(0, 1, 5, 0), write(0, 1, c, 1)), 0)
            self.nothing_sure((write(0, 1, c, 1),))
        self.sure_is((write(0, 0, 5, 0), write(0, 0, 6, 1)), 0, (0, 0, 5))

    def test_never_the_same_does_not_count(self):
        self.sure_is((write(0, 1, 5, 0), write(0, 2, 5, 0), write(0, 1, 6, 1)), 0)
        self.sure_is((read(0, 1, 5), write(0, 1, 6, 1)), 2)

    def test_counted_with_the_same_name(self):
        for base, c in ((2, 5), (2, 6), (0, 5), (0, MOST)):
            self.sure_is((write(0, 1, 5, 0), write(0, base, c, 0)), 0)
        self.sure_is((write(0, 1, 5, 0), write(0, 2, 6, 0), write(0, 2, 5, 0), write(0, 0, 5, 0)), 0)

    def test_counted_with_another_name(self):
        for base, c in ((2, 5), (2, 6), (0, 5), (0, MOST)):
            self.nothing_sure((write(0, 1, 5, 0), write(0, base, c, 1)))

    def test_two_that_count_with_two_names(self):
        self.nothing_sure((write(0, 1, 5, 0), write(0, 2, 6, 1), write(0, 2, 5, 0)))
        self.nothing_sure((write(0, 1, 5, 0), write(0, 0, 5, 1), write(0, 2, 5, 0)))
        self.nothing_sure((write(0, 1, 5, 0), write(0, 0, 5, 0), write(0, 2, 5, 1)))

    def test_alike_to_one_that_has_counted_is_passed_over(self):
        self.sure_is((write(0, 1, 5, 0), write(0, 2, 5, 1), write(0, 2, 5, 0)), 0)
        self.sure_is((write(0, 1, 5, 0), write(0, 2, 5, 1), write(0, 0, 7, 0), write(0, 2, 5, 0)), 0)
        self.sure_is((write(0, 1, 5, 0), write(0, 0, 7, 1), write(0, 0, 7, 0), write(0, 2, 5, 0)), 0)

    def test_alike_to_one_counted_but_not_to_the_one_counted_last(self):
        self.sure_is((write(0, 1, 5, 0), write(0, 2, 5, 1), write(0, 2, 6, 0), write(0, 2, 5, 0)), 0)

    def test_with_only_the_number_of_one_that_has_counted(self):
        self.nothing_sure((write(0, 1, 5, 0), write(0, 0, 6, 1), write(0, 2, 6, 0)))

    def test_one_counted_in_another_row_of_cells_hides_nothing(self):
        self.nothing_sure((write(0, 1, 5, 0), write(0, 2, 5, 1), write(1, 2, 5, 0)))

    def test_ahead_of_the_one_found_nothing_matters(self):
        self.sure_is((write(0, 2, 5, 1), read(0, 1, 5), write(0, 1, 5, 0), write(0, 2, 6, 0)), 0)

    def test_names_count_not_their_words(self):
        self.nothing_sure((num(8), num(8), write(0, 1, 5, 2), write(0, 2, 5, 3)))
        self.sure_is((num(8), num(8), write(0, 1, 5, 2), write(0, 2, 5, 2)), 2)


class ReadTest(SureTest):
    def test_alike(self):
        for cells in range(4):
            self.sure_is((read(cells, 1, 5),), 2, (cells, 1, 5))
        self.sure_is((num(9), read(0, 0, MOST)), 3, (0, 0, MOST))

    def test_the_last_one_alike(self):
        self.sure_is((read(0, 1, 5), read(0, 1, 5)), 3)
        self.sure_is((write(0, 1, 5, 0), read(0, 1, 5)), 2)
        self.sure_is((read(0, 1, 5), write(0, 1, 5, 0)), 0)

    def test_other_reads_are_passed_over(self):
        self.nothing_sure((read(0, 1, 6), read(0, 2, 5), read(0, 0, 5)))
        self.sure_is((write(0, 1, 5, 0), read(0, 1, 6), read(0, 2, 5), read(0, 0, 5)), 0)
        self.sure_is((read(0, 1, 5), read(0, 2, 5)), 2)

    def test_a_write_has_counted_with_its_name(self):
        self.sure_is((read(0, 1, 5), write(0, 2, 5, 2)), 2)
        self.sure_is((read(0, 1, 5), write(0, 2, 5, 2), write(0, 0, 5, 2)), 2)

    def test_a_write_has_counted_with_another_name(self):
        self.nothing_sure((read(0, 1, 5), write(0, 2, 5, 0)))
        self.nothing_sure((read(0, 1, 5), read(0, 1, 5), write(0, 2, 5, 2)))
        self.nothing_sure((write(0, 1, 5, 0), read(0, 1, 5), write(0, 2, 5, 0)))

    def test_a_write_alike_to_one_counted_is_passed_over_ahead_of_a_read_too(self):
        self.sure_is((read(0, 1, 5), write(0, 2, 5, 0), write(0, 2, 5, 2)), 2)

    def test_a_read_at_the_place_of_a_write_that_has_counted(self):
        self.sure_is((write(0, 1, 5, 0), read(0, 2, 5), write(0, 2, 5, 0)), 0)
        self.sure_is((write(0, 1, 5, 0), write(0, 2, 5, 0), read(0, 2, 5)), 0)

    def test_a_read_elsewhere_does_not_count(self):
        self.nothing_sure((write(0, 1, 5, 0), write(0, 2, 5, 1), read(0, 2, 5)))


class OtherRowsOfCellsTest(SureTest):
    def test_writes(self):
        for cells in (1, 2, 3):
            self.nothing_sure((write(cells, 1, 5, 0),))
            self.sure_is((write(0, 1, 5, 0), write(cells, 1, 5, 1)), 0)
            self.sure_is((write(0, 1, 5, 0), write(cells, 2, 5, 1)), 0)
            self.sure_is((read(0, 1, 5), write(cells, 2, 5, 1)), 2)

    def test_reads(self):
        for cells in (1, 2, 3):
            self.nothing_sure((read(cells, 1, 5),))
            self.sure_is((write(0, 1, 5, 0), read(cells, 1, 5)), 0)

    def test_each_row_of_cells_is_asked_for_itself(self):
        calls = (code(2), write(0, 1, 5, 0), write(1, 1, 5, 1), read(2, 1, 5))
        self.assertEqual(
            ask(*calls, *[sure(cells, 1, 5) for cells in range(4)])[-4:], [[1, 0], [1, 1], [1, 2], [0]])

    def test_numbers_and_says_between(self):
        self.sure_is((write(0, 1, 5, 0), num(5), say(1), num(6), say(2)), 0)


class WholeCodeTest(SureTest):
    def test_16_rows(self):
        rows = [write(0, 1, 5, 1)] + [write(0, 2, c, 1) for c in range(7)] + [write(0, 0, c, 1) for c in range(8)]
        self.sure_is(rows, 1)
        self.nothing_sure([write(0, 1, 5, 0)] + rows[1:])

    def test_sure_changes_nothing(self):
        calls = (code(2), write(0, 1, 5, 0), write(0, 2, 5, 0))
        self.assertEqual(
            ask(*calls, sure(0, 1, 5), SHOWS, sure(0, 1, 5), sure(0, 2, 5))[-3:],
            [last(*calls, SHOWS), [1, 0], [1, 0]])

    def test_what_is_sure_is_so_in_every_run(self):
        found = 0
        for seed in range(300):
            k, calls = made_up_code(seed)
            rows = rows_of(k, calls)
            for cells in range(4):
                for base in range(k + 1):
                    for c in (0, 1, 5, MOST):
                        told = last(code(k), *calls, sure(cells, base, c))
                        if told != [0]:
                            found += 1
                            self.check_runs(k, rows, (cells, base, c), told)
        self.assertGreater(found, 300)

    def check_runs(self, k, rows, place, told):
        self.assertEqual([len(told), told[0]], [2, 1])
        for seed in range(8):
            words = made_up_words(seed, k)
            named, _, written = play(rows, seed, words)
            key = (place[0], cell_of(place[1], place[2], words))
            self.assertEqual(written.get(key, first_in(*key, seed)), named[told[1]], (rows, place, words))


if __name__ == "__main__":
    unittest.main()
