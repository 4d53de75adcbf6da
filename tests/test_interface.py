"""seencellsdesk.code.answers: what is handed in and what is given back."""

import unittest

import seencellsdesk.code
from seencellsdesk.code import answers
from tests.helper import MOST, SHOWS, code, line, num, read, say, write

FULL_LINE = line([
    code(2), num(MOST), write(1, 2, MOST, 2), read(3, 1, 4), say(3), SHOWS,
    code(5), read(4, 0, 0), say(9), code(1), num(0), SHOWS])
FULL_LINE_TOLD = [
    1, 2, 1, 1, 1, 2, 1, 3, 1, 4, 17, 2, 4, 0, 2, MOST, 2, 1, 2, MOST, 2, 1, 3, 3, 1, 4, 3, 3,
    1, -1, 1, -2, 1, -2, 1, 1, 1, 1, 5, 1, 1, 0, 1, 0]


class GuardedList(list):
    """Tells of any try to change it, also of one that is taken back later."""

    def changed(self, *given):
        raise AssertionError("what is handed in was changed")

    append = extend = insert = pop = remove = clear = reverse = sort = changed
    __setitem__ = __delitem__ = __iadd__ = __imul__ = changed


class AnswersTest(unittest.TestCase):
    def test_each_answer_lies_behind_how_many_numbers_it_has(self):
        self.assertEqual(answers([5]), [2, 0, 0])
        self.assertEqual(answers([0, 5]), [1, -1])
        self.assertEqual(answers([1, 5, 5]), [1, 1, 5, 0, 1, 0, 0, 5])
        self.assertEqual(answers(list(FULL_LINE)), FULL_LINE_TOLD)

    def test_the_function_is_where_the_interface_says(self):
        self.assertEqual(seencellsdesk.code.answers(calls=[0, 3]), [1, 3])

    def test_arguments_that_look_like_calls_are_not_taken_for_calls(self):
        self.assertEqual(
            answers([0, 4, 2, 3, 4, 5, 3, 3, 4, 3, 4, 4, 4, 1, 5, 5]),
            [1, 4, 1, 1, 1, 2, 1, 3, 1, 4, 17, 4, 4, 1, 4, 3, 4, 5, 2, 3, 4, 3, 4, 3, 4, 0, 5, 5])

    def test_arguments_of_refused_calls_are_passed_over(self):
        self.assertEqual(
            answers([0, 5, 2, 5, 5, 5, 3, 5, 5, 5, 5, 4, 5, 5]),
            [1, -1, 1, -2, 1, -2, 1, -2, 2, 0, 0])

    def test_40_calls(self):
        self.assertEqual(answers([5] * 40), [2, 0, 0] * 40)
        self.assertEqual(answers([0, 4] * 39 + [5]), [1, 4] * 39 + [2, 4, 0])

    def test_a_list_of_plain_whole_numbers_is_given_back(self):
        told = answers(list(FULL_LINE))
        self.assertIs(type(told), list)
        for number in told:
            self.assertIs(type(number), int)

    def test_what_is_handed_in_stays_as_it_was(self):
        calls = list(FULL_LINE)
        answers(calls)
        self.assertEqual(calls, FULL_LINE)
        self.assertEqual(answers(GuardedList(FULL_LINE)), FULL_LINE_TOLD)

    def test_a_second_time_of_asking_gives_the_same(self):
        calls = list(FULL_LINE)
        first = answers(calls)
        second = answers(calls)
        self.assertEqual(first, FULL_LINE_TOLD)
        self.assertEqual(second, FULL_LINE_TOLD)
        self.assertIsNot(first, second)

    def test_nothing_is_kept_from_one_line_to_the_next(self):
        answers([0, 4, 1, 9])
        self.assertEqual(answers([5, 4, 0]), [2, 0, 0, 1, -2])

    def test_changing_what_was_given_back_changes_nothing_later(self):
        first = answers(list(FULL_LINE))
        first.clear()
        self.assertEqual(answers(list(FULL_LINE)), FULL_LINE_TOLD)


if __name__ == "__main__":
    unittest.main()
