"""Point 1: wl_start."""

import unittest

from helpers import MOST, TURN, WORK, everything, land, numbers, rain, start
from landwater.board import answers
from landwater.land import Land


class StartTest(unittest.TestCase):
    def test_board_that_is_made(self):
        board = Land()
        self.assertEqual(board.wl_start(3, 2, [1, 2, 3, 4, 5, 6], [6, 5, 4, 3, 2, 1]), 0)
        self.assertEqual(everything(board), (0, 3, 2, 21, [0, 0], [1, 2, 3, 4, 5, 6], [0] * 6,
                                             [[6, 5, 4, 3, 2, 1], [0] * 6]))

    def test_sides(self):
        for width, height in ((0, 1), (1, 0), (0, 0), (65, 1), (1, 65), (65, 65), (2 ** 32 - 1, 1), (1, 2 ** 32 - 1)):
            with self.subTest(width=width, height=height):
                self.assertEqual(answers(start(width, height, [], [])), [2, 0, -22])
        for width, height in ((1, 1), (64, 1), (1, 64), (64, 64)):
            with self.subTest(width=width, height=height):
                none = [0] * (width * height)
                self.assertEqual(answers(start(width, height, none, none)), [2, 0, 0])

    def test_ground_of_the_most_and_one_more(self):
        for place in range(4):
            ground = [0] * 4
            ground[place] = MOST
            self.assertEqual(answers(start(2, 2, ground, [0] * 4)), [2, 0, 0])
            ground[place] = MOST + 1
            self.assertEqual(answers(start(2, 2, ground, [0] * 4)), [2, 0, -22])
            ground[place] = 2 ** 32 - 1
            self.assertEqual(answers(start(2, 2, ground, [0] * 4)), [2, 0, -22])

    def test_grounds_are_not_added_together(self):
        self.assertEqual(answers(start(2, 2, [MOST] * 4, [0] * 4)), [2, 0, 0])

    def test_all_water_together(self):
        self.assertEqual(answers(start(1, 1, [0], [MOST])), [2, 0, 0])
        self.assertEqual(answers(start(1, 1, [0], [MOST + 1])), [2, 0, -22])
        self.assertEqual(answers(start(2, 2, [0] * 4, [MOST // 4] * 4)), [2, 0, 0])
        self.assertEqual(answers(start(2, 2, [0] * 4, [MOST // 4] * 3 + [MOST // 4 + 1])), [2, 0, -22])
        self.assertEqual(answers(start(2, 1, [0] * 2, [2 ** 32 - 1, 2 ** 32 - 1])), [2, 0, -22])

    def test_ground_and_water_both_the_most(self):
        self.assertEqual(answers(start(1, 1, [MOST], [MOST])), [2, 0, 0])

    def test_refusal_leaves_the_board(self):
        board = land(2, 2, [1, 2, 3, 4], [50, 0, 9, 0])
        board.wl_work()
        board.wl_rain(1, 1, 7)
        before = everything(board)
        self.assertEqual(board.wl_start(0, 1, [], []), -22)
        self.assertEqual(board.wl_start(1, 65, [], []), -22)
        self.assertEqual(board.wl_start(1, 1, [MOST + 1], [0]), -22)
        self.assertEqual(board.wl_start(1, 1, [0], [MOST + 1]), -22)
        self.assertEqual(everything(board), before)

    def test_refusal_leaves_the_board_seen_by_answers(self):
        calls = start(1, 2, [0, 0], [0, 0]) + WORK + start(1, 1, [MOST + 1], [0]) + WORK + WORK
        self.assertEqual(answers(calls), numbers(0, 1, -22, 1, 0))

    def test_start_again_makes_a_new_board(self):
        board = land(1, 2, [0, 0], [80, 0])
        board.wl_work()
        board.wl_work()
        board.wl_turn()
        board.wl_work()
        board.wl_rain(0, 1, 5)
        self.assertEqual(board.wl_start(2, 1, [3, 4], [1, 2]), 0)
        self.assertEqual(everything(board), everything(land(2, 1, [3, 4], [1, 2])))

    def test_start_again_seen_by_answers(self):
        calls = (start(1, 1, [0], [MOST]) + rain(0, 0, 1) + WORK + start(1, 2, [0, 0], [0, 0]) + rain(0, 1, MOST)
                 + TURN + WORK + WORK + WORK + TURN)
        self.assertEqual(answers(calls), numbers(0, -28, 1, 0, 0, -11, 1, 1, 0, 0))

    def test_start_after_a_refused_one(self):
        self.assertEqual(answers(start(0, 0, [], []) + start(1, 1, [0], [0]) + WORK), numbers(-22, 0, 1))

    def test_what_is_handed_in_is_copied(self):
        ground = [0, 0]
        water = [80, 0]
        board = land(2, 1, ground, water)
        ground[0] = 99
        water[0] = 99
        self.assertEqual(board.ground, [0, 0])
        self.assertEqual(board.water_now(), [80, 0])


if __name__ == "__main__":
    unittest.main()
