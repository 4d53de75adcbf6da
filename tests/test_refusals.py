"""Promises 1 and 2: each refusal at its edge on both sides, several at once, and all as it was behind them."""

import unittest

from tests.helper import (
    BETTER, MOST, SHOWS, ask, code, last, num, read, run, runbetter, say, sees, sure, trade, write)

# Two words handed over and one row of each kind; the names are 0 to 3.
BEGUN = (code(2), num(11), write(1, 2, 5, 2), read(0, 1, 6), say(3))
BEGUN_SHOWN = [2, 4, 0, 2, 11, 2, 1, 2, 5, 2, 1, 3, 0, 1, 6, 3, 3]


class RefusalTest(unittest.TestCase):
    def refused(self, calls, call, number):
        """The call is refused, and a call behind it finds all as it was."""
        before = last(*calls, SHOWS)
        told = ask(*calls, call, SHOWS)
        self.assertEqual(told[-2:], [[number], before], (calls, call))

    def taken(self, calls, call, number):
        self.assertEqual(last(*calls, call), [number], (calls, call))


class CodeRefusalTest(RefusalTest):
    def test_four_words_and_five(self):
        self.taken((), code(4), 4)
        for k in (5, 6, 16, MOST):
            self.refused((), code(k), -1)

    def test_the_code_there_is_stays(self):
        self.assertEqual(last(*BEGUN, SHOWS), BEGUN_SHOWN)
        for k in (5, MOST):
            self.refused(BEGUN, code(k), -1)

    def test_names_go_on_behind_it(self):
        self.assertEqual(last(*BEGUN, code(5), num(1), SHOWS), [2, 5] + BEGUN_SHOWN[2:] + [0, 4, 1])

    def test_with_16_rows(self):
        full = (code(1),) + (say(0),) * 16
        self.refused(full, code(5), -1)
        self.taken(full, code(4), 4)


class PlaceRefusalTest(RefusalTest):
    def test_row_of_cells_three_and_four(self):
        self.taken(BEGUN, read(3, 0, 0), 5)
        self.taken(BEGUN, write(3, 0, 0, 0), 5)
        for cells in (4, 5, MOST):
            self.refused(BEGUN, read(cells, 0, 0), -2)
            self.refused(BEGUN, write(cells, 0, 0, 0), -2)

    def test_base_of_the_last_word_and_one_behind(self):
        for k in range(5):
            begun = (code(k), num(3))
            self.taken(begun, read(0, k, 0), 2)
            self.taken(begun, write(0, k, 0, 0), 2)
            for base in (k + 1, k + 2, MOST):
                self.refused(begun, read(0, base, 0), -2)
                self.refused(begun, write(0, base, 0, 0), -2)

    def test_a_name_that_a_row_gives_is_no_base(self):
        begun = (num(3), read(0, 0, 0))
        for base in (1, 2):
            self.refused(begun, read(0, base, 0), -2)
            self.refused(begun, write(0, base, 0, 0), -2)

    def test_bases_are_those_of_the_newest_code(self):
        self.refused((code(4), code(1)), read(0, 2, 0), -2)
        self.refused((code(4), code(1)), write(0, 2, 0, 0), -2)
        self.taken((code(1), code(4)), read(0, 4, 0), 1)

    def test_any_number_is_a_cell(self):
        self.taken(BEGUN, read(0, 0, MOST), 5)
        self.taken(BEGUN, write(0, 2, MOST, 0), 5)


class NameRefusalTest(RefusalTest):
    def test_no_name_at_the_beginning(self):
        for v in (0, 1, MOST):
            self.refused((), say(v), -2)
            self.refused((), write(0, 0, 0, v), -2)

    def test_last_word_and_the_name_behind_it(self):
        for k in range(1, 5):
            self.taken((code(k),), say(k - 1), 1)
            self.taken((code(k),), write(0, 0, 0, k - 1), 1)
            for v in (k, k + 1, MOST):
                self.refused((code(k),), say(v), -2)
                self.refused((code(k),), write(0, 0, 0, v), -2)

    def test_last_name_that_a_row_gives_and_the_one_behind_it(self):
        self.taken(BEGUN, say(3), 5)
        self.taken(BEGUN, write(0, 0, 0, 3), 5)
        for v in (4, 5, MOST):
            self.refused(BEGUN, say(v), -2)
            self.refused(BEGUN, write(0, 0, 0, v), -2)

    def test_writes_and_says_give_no_names(self):
        begun = (code(1), say(0), write(0, 0, 0, 0))
        self.refused(begun, say(1), -2)
        self.refused(begun, write(0, 0, 0, 1), -2)

    def test_a_name_comes_with_its_row(self):
        self.assertEqual(
            ask(say(0), num(4), say(0), say(1), read(0, 0, 0), say(1)),
            [[-2], [1], [2], [-2], [3], [4]])

    def test_a_refused_row_gives_no_name(self):
        self.refused((code(1), read(4, 0, 0)), say(1), -2)
        self.refused((code(1), read(0, 2, 0)), write(0, 0, 0, 1), -2)

    def test_names_go_with_the_code(self):
        self.refused((code(2), num(4), code(1)), say(1), -2)
        self.refused((code(2), num(4), code(1)), write(0, 0, 0, 1), -2)


class RoomRefusalTest(RefusalTest):
    def test_16th_and_17th_row_of_each_kind(self):
        for row in (num(8), read(3, 2, 1), write(2, 1, 7, 1), say(1)):
            for filler in (num(9), read(0, 0, 0), write(0, 0, 0, 0), say(0)):
                self.taken((code(2),) + (filler,) * 15, row, 16)
                self.refused((code(2),) + (filler,) * 16, row, -1)

    def test_a_refused_row_takes_no_room(self):
        begun = (code(1),) + (say(0),) * 15 + (say(1), read(4, 0, 0), write(0, 2, 0, 0), code(5))
        self.taken(begun, num(1), 16)
        self.refused(begun + (num(1),), num(1), -1)

    def test_every_row_behind_the_16th_is_refused(self):
        told = ask(*[num(i) for i in range(20)])
        self.assertEqual(told, [[i] for i in range(1, 17)] + [[-1]] * 4)

    def test_the_name_of_a_number_without_room_is_not_there(self):
        full = (num(5),) * 16
        self.refused(full + (num(5),), say(16), -2)
        self.refused(full + (num(5),), say(15), -1)


class WordsRefusalTest(RefusalTest):
    def test_a_word_too_few_and_one_too_many(self):
        for asked in (run, runbetter):
            for k in range(5):
                for count in (*range(7), 39, 40):
                    call = asked(MOST, *[MOST] * count)
                    if count == k:
                        self.assertEqual(last(code(k), call), [0, 0])
                    else:
                        self.refused((code(k),), call, -5)

    def test_at_the_beginning_no_word_is_handed_over(self):
        for asked in (run, runbetter):
            self.assertEqual(last(asked(1)), [0, 0])
            self.refused((), asked(1, 0), -5)
            self.refused((), asked(1, *[0] * 40), -5)

    def test_with_rows(self):
        for asked in (run, runbetter):
            self.assertEqual(last(*BEGUN, asked(3, 7, 8)), [1, 7919 * 13 + 3, 1, 1, 13, 11])
            self.refused(BEGUN, asked(3), -5)
            self.refused(BEGUN, asked(3, 7), -5)
            self.refused(BEGUN, asked(3, 7, 8, 9), -5)
            self.refused(BEGUN, asked(3, *range(40)), -5)

    def test_words_that_look_like_calls(self):
        for asked in (run, runbetter):
            self.assertEqual(
                ask(code(1), asked(5, *[5] * 40), asked(0, 6, 6, 6), SHOWS, asked(6, 11), BETTER),
                [[1], [-5], [-5], [1, 0], [0, 0], [1, 0]])


class SeesRefusalTest(RefusalTest):
    def test_rows_that_are_no_reads(self):
        for r, told in ((0, [-3]), (1, [-3]), (2, [1, 0]), (3, [-3])):
            self.assertEqual(last(*BEGUN, sees(r)), told)
        for r in (0, 1, 3):
            self.refused(BEGUN, sees(r), -3)

    def test_rows_that_are_not_there(self):
        for r in (4, 5, 16, MOST):
            self.refused(BEGUN, sees(r), -3)
        for r in (0, 1, MOST):
            self.refused((), sees(r), -3)
            self.refused((code(4),), sees(r), -3)

    def test_last_of_16_rows_and_the_first_behind(self):
        full = (read(0, 0, 0),) * 16
        self.assertEqual(last(*full, sees(15)), [1, 0])
        self.refused(full, sees(16), -3)

    def test_a_read_that_is_gone_with_the_code(self):
        self.refused((read(0, 0, 0), code(0)), sees(0), -3)


class SureRefusalTest(RefusalTest):
    def test_row_of_cells_three_and_four(self):
        self.assertEqual(last(*BEGUN, sure(3, 0, 0)), [0])
        for cells in (4, 5, MOST):
            self.refused(BEGUN, sure(cells, 0, 0), -2)

    def test_base_of_the_last_word_and_one_behind(self):
        for k in range(5):
            begun = (code(k), num(3), read(0, 0, 0))
            self.assertEqual(last(*begun, sure(1, k, MOST)), [0])
            for base in (k + 1, k + 2, MOST):
                self.refused(begun, sure(1, base, 0), -2)

    def test_at_the_beginning(self):
        self.assertEqual(last(sure(3, 0, MOST)), [0])
        self.refused((), sure(0, 1, 0), -2)

    def test_both_and_with_16_rows(self):
        for begun in (BEGUN, (code(2),) + (say(1),) * 16):
            self.refused(begun, sure(4, 3, 0), -2)
            self.refused(begun, sure(MOST, MOST, MOST), -2)
            self.assertEqual(last(*begun, sure(3, 2, MOST)), [0])


class TradeRefusalTest(RefusalTest):
    def test_the_last_row_the_one_ahead_and_one_that_is_not_there(self):
        self.assertEqual(last(*BEGUN, trade(2)), [0])
        self.assertEqual(last(*BEGUN, trade(1)), [1])
        for r in (3, 4, 5, 16, MOST - 1, MOST):
            self.refused(BEGUN, trade(r), -3)

    def test_no_rows_and_one(self):
        for r in (0, 1, MOST):
            self.refused((), trade(r), -3)
            self.refused((num(1),), trade(r), -3)
        self.assertEqual(last(num(1), num(1), trade(0)), [1])

    def test_16_rows(self):
        full = (num(1),) * 16
        self.assertEqual(last(*full, trade(14)), [1])
        for r in (15, 16):
            self.refused(full, trade(r), -3)


class SeveralRefusalsTest(RefusalTest):
    def test_what_is_not_there_is_told_ahead_of_no_room(self):
        full = (code(2),) + (num(9),) * 16
        self.refused(full, read(3, 2, 0), -1)
        self.refused(full, write(3, 2, 0, 17), -1)
        self.refused(full, say(17), -1)
        self.refused(full, read(4, 2, 0), -2)
        self.refused(full, read(3, 3, 0), -2)
        self.refused(full, write(4, 2, 0, 17), -2)
        self.refused(full, write(3, 3, 0, 17), -2)
        self.refused(full, write(3, 2, 0, 18), -2)
        self.refused(full, say(18), -2)

    def test_several_things_that_are_not_there(self):
        for begun in (BEGUN, (code(2),) + (say(1),) * 16):
            self.refused(begun, read(4, 3, 0), -2)
            self.refused(begun, write(4, 3, 0, 0), -2)
            self.refused(begun, write(0, 3, 0, 4), -2)
            self.refused(begun, write(4, 0, 0, 4), -2)
            self.refused(begun, write(MOST, MOST, MOST, MOST), -2)

    def test_many_refusals_in_one_line(self):
        told = ask(*BEGUN, say(4), code(5), read(4, 0, 0), write(0, 3, 0, 0), SHOWS, say(0))
        self.assertEqual(told[5:], [[-2], [-1], [-2], [-2], BEGUN_SHOWN, [5]])

    def test_refusals_of_calls_that_ask_are_followed_by_calls_that_find_all_as_it_was(self):
        asked = (run(0, 1, 2), sees(2), sure(1, 2, 5), trade(0), BETTER, runbetter(0, 1, 2), SHOWS)
        refused = (run(0, 1), sees(4), sure(4, 0, 0), trade(3), runbetter(0, 1, 2, 3), sees(0), sure(0, 3, 0))
        told = ask(*BEGUN, *asked, *refused, *asked)[5:]
        self.assertEqual(told[7:14], [[-5], [-3], [-2], [-3], [-5], [-3], [-2]])
        self.assertEqual(told[:7], told[14:])
        self.assertEqual(told[:7], [
            [1, 7919 * 7, 1, 1, 7, 11], [1, 0], [1, 2], [0], BEGUN_SHOWN, [1, 7919 * 7, 1, 1, 7, 11], BEGUN_SHOWN])


if __name__ == "__main__":
    unittest.main()
