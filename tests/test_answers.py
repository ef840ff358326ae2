"""The interface: the form of what is answered, and what is handed in."""

import unittest

from helpers import HIGHEST, MOST, STILL, TURN, WORK, cell, numbers, rain, start
from landwater.board import answers


class AnswersTest(unittest.TestCase):
    def test_count_form_and_number(self):
        self.assertEqual(answers([0, 1, 1, 1, 5, 1, 9]), [2, 0, 0])
        self.assertEqual(answers([0, 0, 7, 0, 0]), [2, 0, -22])

    def test_form_of_each_call(self):
        begin = [0, 2, 1, 2, 5, 6, 2, 80, 0]
        self.assertEqual(answers(begin), [2, 0, 0])
        for call, told in (([1], [2, 0, 1]), ([2], [2, 0, -11]), ([3, 1, 0, 4], [2, 0, 0]), ([3, 2, 0, 4], [2, 0, -22]),
                           ([3, 0, 0, 2 ** 31], [2, 0, -28]), ([4, 0, 0], [4, 1, 2, 5, 80]), ([4, 2, 0], [2, 0, -22]),
                           ([4, 0, 1], [2, 0, -22]), ([5], [3, 1, 1, 85]), ([6], [2, 0, 0])):
            with self.subTest(call=call):
                self.assertEqual(answers(begin + call), [2, 0, 0] + told)

    def test_form_where_0_is_told(self):
        calls = [0, 1, 1, 1, 0, 1, 0, 4, 0, 0, 5, 6, 1, 1, 2]
        self.assertEqual(answers(calls), [2, 0, 0, 4, 1, 2, 0, 0, 3, 1, 1, 0, 2, 0, 1, 2, 0, 1, 2, 0, 0, 2, 0, 0])

    def test_all_seven_in_one_list(self):
        calls = ([0, 2, 1, 2, 0, 0, 2, 80, 0, 6, 1, 3, 1, 0, 4, 2, 4, 0, 0, 4, 1, 0, 5, 6, 4, 1, 1]
                 + [0, 1, 2, 2, 6, 5, 2, 4, 3, 4, 0, 1, 5, 6, 1, 2]
                 + [0, 0, 0, 0, 0, 4, 0, 0, 5, 6])
        self.assertEqual(answers(calls),
                         [2, 0, 0, 2, 0, 0, 2, 0, 1, 2, 0, 0, 2, 0, 0, 4, 1, 2, 0, 70, 4, 1, 2, 0, 14, 3, 1, 1, 70,
                          2, 0, 0, 2, 0, -22]
                         + [2, 0, 0, 4, 1, 2, 5, 3, 3, 1, 1, 10, 2, 0, 1, 2, 0, 1, 2, 0, -11]
                         + [2, 0, -22, 4, 1, 2, 6, 4, 3, 1, 1, 10, 2, 0, 1])

    def test_several_calls(self):
        calls = [0, 2, 1, 2, 0, 0, 2, 80, 0, 1, 1, 2, 3, 1, 0, 4, 3, 2, 0, 4, 2, 1]
        self.assertEqual(answers(calls), [2, 0, 0, 2, 0, 1, 2, 0, 0, 2, 0, 0, 2, 0, 0, 2, 0, -22, 2, 0, -11, 2, 0, 1])

    def test_numbers_within_a_call_are_not_calls(self):
        calls = start(3, 1, [0, 1, 2], [3, 2, 1]) + rain(1, 0, 2) + rain(2, 0, 1) + WORK + TURN
        self.assertEqual(answers(calls), numbers(0, 0, 0, 1, 0))

    def test_rows_of_a_refused_start_are_passed_over(self):
        calls = start(2, 2, [MOST + 1, 1, 2, 3], [1, 2, 3, 0]) + start(1, 1, [0], [1]) + WORK
        self.assertEqual(answers(calls), numbers(-22, 0, 1))

    def test_kind_of_what_is_given_back(self):
        told = answers(start(2, 1, [0, 0], [0, 9]) + STILL + WORK + WORK + TURN + TURN + rain(0, 0, 1) + cell(0, 0)
                       + cell(2, 0) + HIGHEST + STILL)
        self.assertIs(type(told), list)
        for value in told:
            self.assertIs(type(value), int)

    def test_list_handed_in_stays(self):
        calls = start(2, 2, [5, 0, 0, 3], [90, 0, 7, 0]) + rain(0, 0, 5) + WORK * 3 + TURN + WORK
        calls += cell(0, 0) + cell(9, 9) + HIGHEST + STILL
        before = list(calls)
        answers(calls)
        self.assertEqual(calls, before)

    def test_nothing_is_kept(self):
        calls = start(1, 2, [0, 0], [MOST - 1, 0]) + rain(0, 0, 1) + rain(0, 0, 1) + WORK
        once = answers(calls)
        self.assertEqual(once, numbers(0, 0, -28, 1))
        self.assertEqual(answers(calls), once)
        answers(start(1, 1, [0], [0]) + WORK)
        self.assertEqual(answers(calls), once)

    def test_lists_given_back_are_not_one(self):
        calls = start(1, 1, [0], [0])
        first = answers(calls)
        first.append(99)
        self.assertEqual(answers(calls), [2, 0, 0])

    def test_as_many_calls_as_there_may_be(self):
        calls = start(64, 64, [3] * 4096, [2 ** 18] * 4096) + (WORK * 64 + TURN) * 46 + WORK * 9
        # Not assertEqual: to show how two lists of this length differ takes it many minutes.
        self.assertTrue(answers(calls) == numbers(0, *(([1] * 64 + [0]) * 46 + [1] * 9)))

    def test_list_handed_in_is_only_read(self):
        class OnlyRead(list):
            def changed(self, *values):
                raise AssertionError("the list that is handed in is changed")

            append = extend = insert = remove = pop = clear = sort = reverse = changed
            __setitem__ = __delitem__ = __iadd__ = __imul__ = changed

        calls = start(2, 2, [5, 0, 0, 3], [90, 0, 7, 0]) + rain(0, 0, 5) + WORK * 3 + TURN + WORK
        calls += cell(0, 0) + cell(9, 9) + HIGHEST + STILL + start(0, 0, [], []) + start(1, 1, [0], [5]) + WORK
        self.assertEqual(answers(OnlyRead(calls)), answers(calls))

    def test_number_that_is_no_call(self):
        with self.assertRaises(KeyError):
            answers(start(1, 1, [0], [0]) + [7])


if __name__ == "__main__":
    unittest.main()
