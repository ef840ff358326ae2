"""Point 2: wl_work, and how a row is done."""

import unittest

from helpers import WORK, land, numbers, start, sweep
from landwater.board import answers


class WorkTest(unittest.TestCase):
    def test_rows_one_by_one_from_the_first(self):
        board = land(1, 3, [0, 0, 0], [0, 80, 0])
        self.assertEqual(board.wl_work(), 1)
        self.assertEqual(board.states, [2, 0, 0])
        self.assertEqual(board.water_coming(), [10, 0, 0])
        self.assertEqual(board.wl_work(), 1)
        self.assertEqual(board.states, [2, 2, 0])
        self.assertEqual(board.water_coming(), [10, 60, 0])
        self.assertEqual(board.wl_work(), 1)
        self.assertEqual(board.states, [2, 2, 2])
        self.assertEqual(board.water_coming(), [10, 60, 10])
        self.assertEqual(board.water_now(), [0, 80, 0])

    def test_the_first_that_waits(self):
        board = land(1, 3, [0, 0, 0], [0, 0, 0])
        board.states = [2, 0, 0]
        self.assertEqual(board.wl_work(), 1)
        self.assertEqual(board.states, [2, 2, 0])

    def test_no_row_waits(self):
        board = land(1, 1, [0], [5])
        self.assertEqual(board.wl_work(), 1)
        self.assertEqual(board.wl_work(), 0)
        self.assertEqual(board.wl_work(), 0)
        self.assertEqual((board.sweep, board.states, board.water_now(), board.water_coming()), (0, [2], [5], [5]))

    def test_answers_of_64_rows(self):
        calls = start(1, 64, [0] * 64, [0] * 64) + WORK * 66
        self.assertEqual(answers(calls), numbers(0, *([1] * 64 + [0, 0])))

    def test_by_water_now_from_a_row_that_is_done(self):
        # The row above has lost a quarter already when the row below is done; it counts with what it has now.
        board = land(1, 2, [1000, 0], [100, 0])
        board.wl_work()
        self.assertEqual(board.water_coming(), [75, 0])
        board.wl_work()
        self.assertEqual(board.water_coming(), [75, 25])

    def test_by_water_now_from_the_left(self):
        board = land(3, 1, [0, 0, 0], [800, 0, 0])
        board.wl_work()
        self.assertEqual(board.water_coming(), [700, 100, 0])

    def test_old_water_of_next_is_not_kept(self):
        board = land(1, 2, [0, 0], [80, 0])
        sweep(board)
        self.assertEqual(board.water_now(), [70, 10])
        sweep(board)
        self.assertEqual(board.water_now(), [63, 17])
        sweep(board)
        self.assertEqual(board.water_now(), [58, 22])

    def test_all_four_sides(self):
        board = land(3, 3, [0] * 9, [0, 0, 0, 0, 800, 0, 0, 0, 0])
        sweep(board)
        self.assertEqual(board.water_now(), [0, 100, 0, 100, 400, 100, 0, 100, 0])

    def test_last_drop_goes_to_four_sides(self):
        board = land(3, 3, [0, 0, 0, 0, 1000, 0, 0, 0, 0], [0, 0, 0, 0, 100, 0, 0, 0, 0])
        sweep(board)
        self.assertEqual(board.water_now(), [0, 25, 0, 25, 0, 25, 0, 25, 0])

    def test_inflow_from_four_sides(self):
        board = land(3, 3, [0] * 9, [0, 80, 0, 160, 0, 240, 0, 320, 0])
        board.wl_work()
        board.wl_work()
        self.assertEqual(board.water_coming()[4], 10 + 20 + 30 + 40)

    def test_the_edges_are_not_joined(self):
        board = land(3, 2, [0] * 6, [0, 0, 800, 0, 0, 0])
        sweep(board)
        self.assertEqual(board.water_now(), [0, 100, 600, 0, 0, 100])

    def test_differences_of_7_and_8(self):
        for ground, water, after in (([0, 0], [7, 0], [7, 0]), ([0, 0], [8, 0], [7, 1]), ([0, 13], [0, 4], [1, 3]),
                                     ([9, 4], [0, 12], [0, 12]), ([9, 4], [0, 13], [1, 12])):
            for width, height in ((2, 1), (1, 2)):
                with self.subTest(ground=ground, water=water, width=width):
                    board = land(width, height, ground, water)
                    sweep(board)
                    self.assertEqual(board.water_now(), after)
                    self.assertEqual(board.ground, ground)


if __name__ == "__main__":
    unittest.main()
