"""The interface: the form of what is answered, and what is handed in."""

import unittest

from helpers import MOST, TURN, WORK, numbers, rain, start
from landwater.board import answers


class AnswersTest(unittest.TestCase):
    def test_count_form_and_number(self):
        self.assertEqual(answers([0, 1, 1, 1, 5, 1, 9]), [2, 0, 0])
        self.assertEqual(answers([0, 0, 7, 0, 0]), [2, 0, -22])

    def test_several_calls(self):
        calls = [0, 2, 1, 2, 0, 0, 2, 80, 0, 1, 1, 2, 3, 1, 0, 4, 3, 2, 0, 4, 2, 1]
        self.assertEqual(answers(calls), [2, 0, 0, 2, 0, 1, 2, 0, 0, 2, 0, 0, 2, 0, 0, 2, 0, -22, 2, 0, -11, 2, 0, 1])

    def test_numbers_within_a_call_are_not_calls(self):
        calls = start(3, 1, [0, 1, 2], [3, 2, 1]) + rain(1, 0, 2) + rain(2, 0, 1) + WORK + TURN
        self.assertEqual(answers(calls), numbers(0, 0, 0, 1, 0))

    def test_rows_of_a_refused_start_are_passed_over(self):
        calls = start(2, 2, [MOST + 1, 1, 2, 3], [1, 2, 3, 0]) + start(1, 1, [0], [1]) + WORK
        self.assertEqual(answers(calls), numbers(-22, 0, 1))

    def test_kind_of_what_is_given_back(self):
        told = answers(start(1, 1, [0], [0]) + WORK + WORK + TURN + TURN)
        self.assertIs(type(told), list)
        for value in told:
            self.assertIs(type(value), int)

    def test_list_handed_in_stays(self):
        calls = start(2, 2, [5, 0, 0, 3], [90, 0, 7, 0]) + rain(0, 0, 5) + WORK * 3 + TURN + WORK
        before = list(calls)
        answers(calls)
        self.assertEqual(calls, before)

    def test_nothing_is_kept(self):
        calls = start(1, 2, [0, 0], [MOST - 1, 0]) + rain(0, 0, 1) + rain(0, 0, 1) + WORK
        once = answers(calls)
        self.assertEqual(once, numbers(0, 0, -28, 1))
        self.assertEqual(answers(calls), once)
        answers(start(1, 1, [0], [0]) + WORK)
        self.assertEqual(answers(calls), once)

    def test_lists_given_back_are_not_one(self):
        calls = start(1, 1, [0], [0])
        first = answers(calls)
        first.append(99)
        self.assertEqual(answers(calls), [2, 0, 0])

    def test_as_many_calls_as_there_may_be(self):
        calls = start(64, 64, [3] * 4096, [2 ** 18] * 4096) + (WORK * 64 + TURN) * 46 + WORK * 9
        # Not assertEqual: to show how two lists of this length differ takes it many minutes.
        self.assertTrue(answers(calls) == numbers(0, *(([1] * 64 + [0]) * 46 + [1] * 9)))

    def test_number_that_is_no_call(self):
        with self.assertRaises(KeyError):
            answers(start(1, 1, [0], [0]) + [7])


if __name__ == "__main__":
    unittest.main()
