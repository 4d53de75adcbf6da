"""better: the code made smaller, step by step."""

import unittest

from tests.helper import BETTER, MOST, SHOWS, ask, code, last, num, read, say, shown, sure, write


class BetterTest(unittest.TestCase):
    """The codes are handed three words, so that rows give the names from 3 on."""

    def better_is(self, calls, *rows):
        self.assertEqual(last(code(3), *calls, BETTER), shown(3, *rows), calls)

    def stays_as_it_is(self, *calls):
        before = last(code(3), *calls, SHOWS)
        self.assertEqual(last(code(3), *calls, BETTER), before, calls)


class EdgesTest(BetterTest):
    def test_no_rows(self):
        self.assertEqual(ask(BETTER), [[0, 0]])
        for k in range(5):
            self.assertEqual(ask(code(k), BETTER), [[k], [k, 0]])

    def test_16_rows_of_which_all_stay(self):
        self.stays_as_it_is(*[write(c % 2, 1, c, 0) for c in range(16)])
        self.stays_as_it_is(*[num(c) for c in range(8)], *[say(3 + c) for c in range(8)])

    def test_16_rows_of_which_none_stays(self):
        self.better_is([num(c) for c in range(16)])
        self.better_is([write(2 + c % 2, 1, c, 0) for c in range(16)])

    def test_16_rows_of_which_one_stays(self):
        self.better_is([write(1, 2, MOST, 1)] * 16, (2, 1, 2, MOST, 1))
        self.better_is([read(3, 2, 6)] * 15 + [say(17)], (1, 3, 3, 2, 6), (3, 3))

    def test_the_code_itself_stays(self):
        calls = (code(1), num(5), num(5), write(0, 1, 0, 1), write(0, 1, 0, 2), read(0, 1, 0), say(3))
        told = ask(*calls, BETTER, SHOWS, BETTER)[-3:]
        smaller = shown(1, (0, 1, 5), (2, 0, 1, 0, 1), (3, 1))
        self.assertEqual(told, [smaller, last(*calls, SHOWS), smaller])

    def test_rows_put_behind_better_go_on_with_the_names_of_the_code_itself(self):
        self.assertEqual(
            ask(num(5), num(5), BETTER, num(6), say(2), BETTER)[2:],
            [[0, 0], [3], [4], shown(0, (0, 2, 6), (3, 2))])


class SayTest(BetterTest):
    def test_every_say_stays(self):
        self.stays_as_it_is(say(0), say(0), say(2), say(0))


class NumberTest(BetterTest):
    def test_given_again(self):
        self.better_is((num(5), num(5), say(3), say(4)), (0, 3, 5), (3, 3), (3, 3))

    def test_given_again_and_again(self):
        self.better_is(
            (num(5), num(6), num(5), num(6), num(5), say(7), say(6), say(4), say(5)),
            (0, 3, 5), (0, 4, 6), (3, 3), (3, 4), (3, 4), (3, 3))

    def test_the_first_one_is_used_only_by_names_that_stand_for_it(self):
        self.better_is((num(5), num(5), write(0, 1, 0, 4)), (0, 3, 5), (2, 0, 1, 0, 3))

    def test_two_numbers(self):
        self.stays_as_it_is(num(0), num(MOST), say(3), say(4))

    def test_a_number_is_not_a_word_handed_over_or_read(self):
        self.stays_as_it_is(read(0, 0, 0), num(0), say(3), say(4), say(0))

    def test_the_name_of_a_read_is_no_number(self):
        self.stays_as_it_is(read(0, 0, 5), num(3), num(5), say(3), say(4), say(5))

    def test_nobody_uses_its_name(self):
        self.better_is((num(5),))
        self.better_is((num(5), num(6), say(4)), (0, 4, 6), (3, 4))
        self.better_is((num(5), num(6), num(7), say(4), say(0)), (0, 4, 6), (3, 4), (3, 0))

    def test_only_a_write_that_goes_uses_its_name(self):
        self.better_is((num(5), write(2, 1, 0, 3)))
        self.better_is((num(5), num(6), write(0, 1, 0, 3), write(0, 1, 0, 4)), (0, 4, 6), (2, 0, 1, 0, 4))


class ReadTest(BetterTest):
    def test_a_name_written_is_sure(self):
        self.better_is((write(0, 1, 0, 2), read(0, 1, 0), say(3)), (2, 0, 1, 0, 2), (3, 2))
        self.better_is((write(2, 1, 0, 2), read(2, 1, 0), say(3)), (3, 2))

    def test_a_name_read_is_sure(self):
        self.better_is((read(2, 1, 0), read(2, 1, 0), say(3), say(4)), (1, 3, 2, 1, 0), (3, 3), (3, 3))

    def test_nothing_is_sure(self):
        self.stays_as_it_is(write(0, 1, 0, 0), write(0, 2, 0, 1), read(0, 1, 0), say(3))
        self.stays_as_it_is(write(0, 2, 0, 0), read(0, 1, 0), say(3))
        self.stays_as_it_is(read(0, 2, 0), read(0, 1, 0), read(1, 1, 0), say(3), say(4), say(5))

    def test_its_name_is_written_in_the_place_of_the_one_it_stands_for(self):
        self.better_is(
            (write(0, 1, 0, 2), read(0, 1, 0), write(1, 1, 0, 3)), (2, 0, 1, 0, 2), (2, 1, 1, 0, 2))

    def test_by_names_that_stand_for_others(self):
        self.better_is(
            (num(5), num(5), write(2, 1, 0, 4), read(2, 1, 0), write(2, 2, 0, 5), read(2, 2, 0), say(6)),
            (0, 3, 5), (3, 3))

    def test_sure_only_since_two_names_stand_for_one(self):
        self.better_is(
            (num(5), num(5), write(2, 1, 0, 3), write(2, 2, 0, 4), read(2, 1, 0), say(5)),
            (0, 3, 5), (3, 3))

    def test_sure_behind_the_rows_kept_only(self):
        # The second write goes, since its name is sure there; so the read in between is still the last of its place.
        self.better_is(
            (read(0, 1, 0), write(0, 1, 0, 3), read(0, 1, 0), say(4)), (1, 3, 0, 1, 0), (3, 3))

    def test_nobody_uses_its_name(self):
        self.better_is((read(0, 1, 0),))
        self.better_is((read(0, 1, 0), read(0, 2, 0), say(4)), (1, 4, 0, 2, 0), (3, 4))

    def test_only_rows_that_go_use_its_name(self):
        self.better_is((read(0, 1, 0), write(0, 1, 0, 3)))
        self.better_is((read(0, 1, 0), write(2, 1, 0, 3)))

    def test_a_write_that_stays_uses_its_name(self):
        self.stays_as_it_is(read(0, 1, 0), write(1, 1, 0, 3))


class WriteOfWhatIsSureTest(BetterTest):
    def test_written_again(self):
        self.better_is((write(0, 1, 0, 2), write(0, 1, 0, 2)), (2, 0, 1, 0, 2))
        self.better_is((write(0, 1, 0, 2), write(0, 2, 0, 2), write(0, 1, 0, 2)),
                       (2, 0, 1, 0, 2), (2, 0, 2, 0, 2))

    def test_read_before(self):
        self.better_is((read(0, 1, 0), write(0, 1, 0, 3), say(3)), (1, 3, 0, 1, 0), (3, 3))

    def test_by_names_that_stand_for_others(self):
        self.better_is((num(5), num(5), write(0, 1, 0, 3), write(0, 1, 0, 4)), (0, 3, 5), (2, 0, 1, 0, 3))
        self.better_is((read(0, 1, 0), read(0, 1, 0), write(0, 1, 0, 4)))
        self.better_is((write(0, 1, 0, 2), read(0, 1, 0), write(0, 1, 0, 3)), (2, 0, 1, 0, 2))

    def test_another_name_is_sure(self):
        self.better_is((write(0, 1, 0, 2), write(0, 1, 0, 1)), (2, 0, 1, 0, 1))
        self.better_is((read(0, 1, 0), write(0, 1, 0, 1)), (2, 0, 1, 0, 1))

    def test_the_name_was_there_once_but_is_not_sure_now(self):
        self.better_is(
            (write(0, 1, 0, 2), write(0, 2, 0, 1), write(0, 1, 0, 2)), (2, 0, 2, 0, 1), (2, 0, 1, 0, 2))

    def test_nothing_is_sure(self):
        self.stays_as_it_is(write(0, 1, 0, 2), write(0, 2, 0, 2), write(1, 1, 0, 2), write(0, 1, 1, 2))


class WriteNobodySeesTest(BetterTest):
    def test_written_over_at_a_place_alike(self):
        self.better_is((write(0, 1, 0, 0), write(0, 1, 0, 1)), (2, 0, 1, 0, 1))
        self.better_is((write(1, 1, 0, 0), write(1, 2, 0, 2), write(1, 1, 0, 1)), (2, 1, 2, 0, 2), (2, 1, 1, 0, 1))

    def test_a_place_alike_in_another_row_of_cells(self):
        self.stays_as_it_is(write(0, 1, 0, 0), write(1, 1, 0, 1))
        self.better_is((write(0, 1, 0, 0), write(2, 1, 0, 1)), (2, 0, 1, 0, 0))

    def test_a_place_that_is_not_alike(self):
        self.stays_as_it_is(write(0, 1, 0, 0), write(0, 2, 0, 1))
        self.stays_as_it_is(write(0, 1, 0, 0), write(0, 1, 1, 1))
        self.stays_as_it_is(write(0, 0, 0, 0), write(0, 1, 0, 1))

    def test_rows_of_cells_that_are_not_looked_at(self):
        for cells in (0, 1):
            self.stays_as_it_is(write(cells, 1, 0, 0))
        for cells in (2, 3):
            self.better_is((write(cells, 1, 0, 0),))
            self.better_is((write(cells, 1, 0, 0), write(cells, 2, 0, 1), say(0)), (3, 0))

    def test_a_read_that_stays_may_see_it(self):
        for cells in (2, 3):
            self.stays_as_it_is(write(cells, 1, 0, 0), read(cells, 2, 0), say(3))
        self.stays_as_it_is(write(0, 1, 0, 0), read(0, 2, 0), write(0, 1, 0, 1), say(3))

    def test_a_read_that_stays_may_not_see_it(self):
        self.better_is((write(2, 1, 0, 0), read(2, 1, 1), say(3)), (1, 3, 2, 1, 1), (3, 3))
        self.better_is((write(2, 1, 0, 0), read(3, 2, 0), say(3)), (1, 3, 3, 2, 0), (3, 3))
        self.better_is((read(2, 2, 0), write(2, 1, 0, 0), say(3)), (1, 3, 2, 2, 0), (3, 3))
        self.better_is(
            (write(0, 1, 0, 0), read(0, 1, 1), write(0, 1, 0, 1), say(3)),
            (1, 3, 0, 1, 1), (2, 0, 1, 0, 1), (3, 3))

    def test_a_read_behind_the_write_that_writes_over(self):
        self.better_is(
            (write(0, 1, 0, 0), write(0, 1, 0, 1), read(0, 2, 0), say(3)),
            (2, 0, 1, 0, 1), (1, 3, 0, 2, 0), (3, 3))

    def test_a_read_that_goes_may_see_it(self):
        self.better_is((write(2, 1, 0, 0), read(2, 2, 0)))
        self.better_is((write(0, 1, 0, 0), read(0, 2, 0), write(0, 1, 0, 1)), (2, 0, 1, 0, 1))

    def test_a_read_may_see_it_but_for_a_write_alike_to_it(self):
        self.better_is(
            (write(2, 1, 0, 0), write(2, 1, 0, 1), read(2, 2, 0), say(3)),
            (2, 2, 1, 0, 1), (1, 3, 2, 2, 0), (3, 3))

    def test_a_read_may_see_it_but_for_a_write_alike_to_the_read(self):
        self.better_is(
            (write(2, 2, 0, 0), write(2, 1, 0, 1), write(2, 3, 0, 0), read(2, 1, 0), say(3)),
            (2, 2, 1, 0, 1), (2, 2, 3, 0, 0), (1, 3, 2, 1, 0), (3, 3))

    def test_the_second_of_two_reads_may_see_it(self):
        self.stays_as_it_is(write(2, 1, 0, 0), read(2, 1, 1), read(2, 2, 0), say(3), say(4))

    def test_a_row_of_writes_and_reads_that_goes_as_one(self):
        self.better_is(
            (write(2, 1, 0, 0), read(2, 2, 0), write(3, 1, 0, 3), read(3, 2, 0), write(2, 1, 5, 4), say(1)),
            (3, 1))

    def test_a_row_of_writes_and_reads_that_stays_as_one(self):
        self.stays_as_it_is(
            write(2, 1, 0, 0), read(2, 2, 0), write(3, 1, 0, 3), read(3, 2, 0), write(2, 1, 5, 4), read(2, 3, 0),
            write(1, 0, 0, 5))

    def test_of_the_rows_kept(self):
        # The write of name 1 goes first, as its name is sure by then; the one ahead of it is what the read may see.
        self.better_is(
            (write(2, 1, 0, 1), write(2, 1, 0, 1), read(2, 2, 0), say(3)),
            (2, 2, 1, 0, 1), (1, 3, 2, 2, 0), (3, 3))

    def test_names_stay_as_they_are(self):
        self.better_is(
            (num(1), num(2), read(2, 0, 0), num(2), read(0, 1, MOST), write(1, 3, 4, 6), say(7)),
            (0, 4, 2), (1, 7, 0, 1, MOST), (2, 1, 3, 4, 4), (3, 7))


class MadeSmallerAgainTest(BetterTest):
    def test_what_is_sure_stays_a_name_of_the_code_itself(self):
        calls = (code(1), num(5), num(5), write(0, 1, 0, 2))
        self.assertEqual(ask(*calls, BETTER, sure(0, 1, 0))[-2:], [shown(1, (0, 1, 5), (2, 0, 1, 0, 1)), [1, 2]])


if __name__ == "__main__":
    unittest.main()
