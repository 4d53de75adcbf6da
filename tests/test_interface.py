"""seencellsdesk.code.answers: what is handed in and what is given back."""

import unittest

import seencellsdesk.code
from seencellsdesk.code import answers
from tests.helper import (
    BETTER, MOST, SHOWS, code, line, num, read, run, runbetter, say, sees, split, sure, trade, write)

FULL_LINE = line([
    code(2), num(MOST), write(1, 2, MOST, 2), read(3, 1, 4), say(3), SHOWS,
    code(5), read(4, 0, 0), say(9), code(1), num(0), SHOWS])
FULL_LINE_TOLD = [
    1, 2, 1, 1, 1, 2, 1, 3, 1, 4, 17, 2, 4, 0, 2, MOST, 2, 1, 2, MOST, 2, 1, 3, 3, 1, 4, 3, 3,
    1, -1, 1, -2, 1, -2, 1, 1, 1, 1, 5, 1, 1, 0, 1, 0]

# All twelve kinds, refused and not, in 40 calls, and what each of them answers.
ALL_KINDS = [
    (BETTER, [0, 0]),
    (run(4), [0, 0]),
    (sees(0), [-3]),
    (code(5), [-1]),
    (code(2), [2]),
    (sure(0, 2, 0), [0]),
    (sure(0, 3, 0), [-2]),
    (num(7), [1]),
    (num(7), [2]),
    (write(0, 1, 3, 2), [3]),
    (trade(0), [1]),
    (trade(1), [1]),
    (trade(2), [-3]),
    (write(0, 2, 0, 3), [4]),
    (sure(0, 1, 3), [0]),
    (read(0, 1, 3), [5]),
    (sees(4), [0, 2, 2, 3]),
    (sees(3), [-3]),
    (say(4), [6]),
    (say(5), [-2]),
    (trade(4), [0]),
    (sure(0, 1, 3), [1, 4]),
    (read(4, 0, 0), [-2]),
    (write(2, 0, MOST, 1), [7]),
    (read(2, 2, 0), [8]),
    (sees(7), [1, 1, 6]),
    (write(1, 0, 9, 5), [9]),
    (SHOWS, [2, 9, 0, 2, 7, 0, 3, 7, 2, 0, 1, 3, 2, 2, 0, 2, 0, 3, 1, 4, 0, 1, 3, 3, 4,
             2, 2, 0, MOST, 1, 1, 5, 2, 2, 0, 2, 1, 0, 9, 5]),
    (BETTER, [2, 7, 0, 2, 7, 2, 0, 1, 3, 2, 2, 0, 2, 0, 2, 3, 2,
              2, 2, 0, MOST, 1, 1, 5, 2, 2, 0, 2, 1, 0, 9, 5]),
    (run(1, 10, MOST), [1, 7, 3, 0, 13, 7, 0, MOST, 7, 1, 9, MOST]),
    (runbetter(1, 10, MOST), [1, 7, 3, 0, 13, 7, 0, MOST, 7, 1, 9, MOST]),
    (run(1, 10), [-5]),
    (runbetter(1, *[9] * 40), [-5]),
    (run(1, MOST, 2), [1, 7, 2, 0, 2, 7, 1, 9, 2015845]),
    (runbetter(1, MOST, 2), [1, 7, 2, 0, 2, 7, 1, 9, 2015845]),
    (trade(7), [0]),
    (trade(8), [-3]),
    (code(0), [0]),
    (BETTER, [0, 0]),
    (runbetter(MOST), [0, 0])]
ALL_KINDS_LINE = line([call for call, told in ALL_KINDS])


class GuardedList(list):
    """Tells of any try to change it, also of one that is taken back later."""

    def changed(self, *given):
        raise AssertionError("what is handed in was changed")

    append = extend = insert = pop = remove = clear = reverse = sort = changed
    __setitem__ = __delitem__ = __iadd__ = __imul__ = changed


class AnswersTest(unittest.TestCase):
    def test_each_answer_lies_behind_how_many_numbers_it_has(self):
        self.assertEqual(answers([5]), [2, 0, 0])
        self.assertEqual(answers([0, 5]), [1, -1])
        self.assertEqual(answers([1, 5, 5]), [1, 1, 5, 0, 1, 0, 0, 5])
        self.assertEqual(answers(list(FULL_LINE)), FULL_LINE_TOLD)

    def test_the_function_is_where_the_interface_says(self):
        self.assertEqual(seencellsdesk.code.answers(calls=[0, 3]), [1, 3])

    def test_arguments_that_look_like_calls_are_not_taken_for_calls(self):
        self.assertEqual(
            answers([0, 4, 2, 3, 4, 5, 3, 3, 4, 3, 4, 4, 4, 1, 5, 5]),
            [1, 4, 1, 1, 1, 2, 1, 3, 1, 4, 17, 4, 4, 1, 4, 3, 4, 5, 2, 3, 4, 3, 4, 3, 4, 0, 5, 5])

    def test_arguments_of_refused_calls_are_passed_over(self):
        self.assertEqual(
            answers([0, 5, 2, 5, 5, 5, 3, 5, 5, 5, 5, 4, 5, 5]),
            [1, -1, 1, -2, 1, -2, 1, -2, 2, 0, 0])

    def test_40_calls(self):
        self.assertEqual(answers([5] * 40), [2, 0, 0] * 40)
        self.assertEqual(answers([0, 4] * 39 + [5]), [1, 4] * 39 + [2, 4, 0])

    def test_all_twelve_kinds_in_40_calls(self):
        self.assertEqual(len(ALL_KINDS), 40)
        self.assertEqual({call[0] for call, told in ALL_KINDS}, set(range(12)))
        for (call, expected), told in zip(ALL_KINDS, split(answers(list(ALL_KINDS_LINE))), strict=True):
            self.assertEqual(told, expected, call)

    def test_the_counts_of_what_the_calls_6_to_11_answer(self):
        self.assertEqual(
            answers([0, 1, 4, 0, 2, 0, 1, 2, 6, 3, 1, 9, 7, 1, 8, 0, 1, 2, 9, 0, 10, 11, 3, 1, 9, 9, 1]),
            [1, 1, 1, 1, 1, 2, 3, 1, 9, 0, 2, 1, 0, 2, 1, 1, 1, 1, 4, 1, 1, 3, 0, 3, 1, 9, 0, 1, -3])

    def test_40_calls_with_40_words_each(self):
        self.assertEqual(answers([6, 0, 40, *[11] * 40] * 40), [1, -5] * 40)
        self.assertEqual(answers([11, 0, 40, *[6] * 40] * 40), [1, -5] * 40)

    def test_a_list_of_plain_whole_numbers_is_given_back(self):
        self.assertIs(type(answers(list(ALL_KINDS_LINE))), list)
        told = answers(list(FULL_LINE)) + answers(list(ALL_KINDS_LINE))
        self.assertIs(type(told), list)
        for number in told:
            self.assertIs(type(number), int)

    def test_what_is_handed_in_stays_as_it_was(self):
        calls = list(FULL_LINE)
        answers(calls)
        self.assertEqual(calls, FULL_LINE)
        self.assertEqual(answers(GuardedList(FULL_LINE)), FULL_LINE_TOLD)
        told = answers(list(ALL_KINDS_LINE))
        self.assertEqual(answers(GuardedList(ALL_KINDS_LINE)), told)

    def test_a_second_time_of_asking_gives_the_same(self):
        calls = list(FULL_LINE)
        first = answers(calls)
        second = answers(calls)
        self.assertEqual(first, FULL_LINE_TOLD)
        self.assertEqual(second, FULL_LINE_TOLD)
        self.assertIsNot(first, second)
        self.assertEqual(answers(ALL_KINDS_LINE), answers(ALL_KINDS_LINE))
        self.assertEqual(ALL_KINDS_LINE, line([call for call, told in ALL_KINDS]))

    def test_nothing_is_kept_from_one_line_to_the_next(self):
        answers([0, 4, 1, 9])
        self.assertEqual(answers([5, 4, 0]), [2, 0, 0, 1, -2])

    def test_changing_what_was_given_back_changes_nothing_later(self):
        first = answers(list(FULL_LINE))
        first.clear()
        self.assertEqual(answers(list(FULL_LINE)), FULL_LINE_TOLD)


if __name__ == "__main__":
    unittest.main()
