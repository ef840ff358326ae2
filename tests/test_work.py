"""Point 2: wl_work, and how a row is done."""

import unittest

from helpers import MOST, WORK, land, numbers, start, sweep
from landwater.board import answers


class WorkTest(unittest.TestCase):
    def test_rows_one_by_one_from_the_first(self):
        board = land(1, 3, [0, 0, 0], [0, 80, 0])
        self.assertEqual(board.wl_work(), 1)
        self.assertEqual(board.states, [2, 0, 0])
        self.assertEqual(board.water_coming(), [10, 0, 0])
        self.assertEqual(board.wl_work(), 1)
        self.assertEqual(board.states, [2, 2, 0])
        self.assertEqual(board.water_coming(), [10, 60, 0])
        self.assertEqual(board.wl_work(), 1)
        self.assertEqual(board.states, [2, 2, 2])
        self.assertEqual(board.water_coming(), [10, 60, 10])
        self.assertEqual(board.water_now(), [0, 80, 0])

    def test_the_first_that_waits(self):
        board = land(1, 3, [0, 0, 0], [0, 0, 0])
        board.states = [2, 0, 0]
        self.assertEqual(board.wl_work(), 1)
        self.assertEqual(board.states, [2, 2, 0])

    def test_no_row_waits(self):
        board = land(1, 1, [0], [5])
        self.assertEqual(board.wl_work(), 1)
        self.assertEqual(board.wl_work(), 0)
        self.assertEqual(board.wl_work(), 0)
        self.assertEqual((board.sweep, board.states, board.water_now(), board.water_coming()), (0, [2], [5], [5]))

    def test_answers_of_64_rows(self):
        calls = start(1, 64, [0] * 64, [0] * 64) + WORK * 66
        self.assertEqual(answers(calls), numbers(0, *([1] * 64 + [0, 0])))

    def test_by_water_now_from_a_row_that_is_done(self):
        # The row above has lost a quarter already when the row below is done; it counts with what it has now.
        board = land(1, 2, [1000, 0], [100, 0])
        board.wl_work()
        self.assertEqual(board.water_coming(), [75, 0])
        board.wl_work()
        self.assertEqual(board.water_coming(), [75, 25])

    def test_by_water_now_from_the_left(self):
        board = land(3, 1, [0, 0, 0], [800, 0, 0])
        board.wl_work()
        self.assertEqual(board.water_coming(), [700, 100, 0])

    def test_old_water_of_next_is_not_kept(self):
        board = land(1, 2, [0, 0], [80, 0])
        sweep(board)
        self.assertEqual(board.water_now(), [70, 10])
        sweep(board)
        self.assertEqual(board.water_now(), [63, 17])
        sweep(board)
        self.assertEqual(board.water_now(), [58, 22])

    def test_all_four_sides(self):
        board = land(3, 3, [0] * 9, [0, 0, 0, 0, 800, 0, 0, 0, 0])
        sweep(board)
        self.assertEqual(board.water_now(), [0, 100, 0, 100, 400, 100, 0, 100, 0])

    def test_last_drop_goes_to_four_sides(self):
        board = land(3, 3, [0, 0, 0, 0, 1000, 0, 0, 0, 0], [0, 0, 0, 0, 100, 0, 0, 0, 0])
        sweep(board)
        self.assertEqual(board.water_now(), [0, 25, 0, 25, 0, 25, 0, 25, 0])

    def test_inflow_from_four_sides(self):
        board = land(3, 3, [0] * 9, [0, 80, 0, 160, 0, 240, 0, 320, 0])
        board.wl_work()
        board.wl_work()
        self.assertEqual(board.water_coming()[4], 10 + 20 + 30 + 40)

    def test_the_edges_are_not_joined(self):
        board = land(3, 2, [0] * 6, [0, 0, 800, 0, 0, 0])
        sweep(board)
        self.assertEqual(board.water_now(), [0, 100, 600, 0, 0, 100])


class CornerTest(unittest.TestCase):
    def check_steps(self, width, height, ground, steps):
        board = land(width, height, ground, steps[0])
        for water in steps[1:]:
            sweep(board)
            self.assertEqual(board.water_now(), water)
        self.assertEqual(board.ground, ground)

    def test_one_place(self):
        self.check_steps(1, 1, [7], [[MOST], [MOST], [MOST]])

    def test_one_row(self):
        self.check_steps(4, 1, [0] * 4, [[0, 64, 0, 0], [8, 48, 8, 0], [13, 38, 12, 1]])

    def test_one_column(self):
        self.check_steps(1, 4, [0] * 4, [[0, 64, 0, 0], [8, 48, 8, 0], [13, 38, 12, 1]])

    def test_pit_beside_a_wall(self):
        self.check_steps(3, 1, [MOST, 0, MOST], [[0, 100, 0], [0, 100, 0]])
        self.check_steps(2, 1, [MOST, 0], [[100, 0], [75, 25], [57, 43]])
        self.check_steps(2, 1, [MOST, 0], [[MOST, 0], [MOST - 2 ** 28, 2 ** 28]])

    def test_water_on_a_slope(self):
        self.check_steps(3, 1, [200, 100, 0], [[3, 0, 0], [3, 0, 0]])
        self.check_steps(3, 1, [200, 100, 0], [[4, 0, 0], [3, 1, 0], [3, 1, 0]])

    def test_differences_of_7_and_8(self):
        self.check_steps(2, 1, [0, 0], [[7, 0], [7, 0]])
        self.check_steps(2, 1, [0, 0], [[8, 0], [7, 1], [7, 1]])
        self.check_steps(1, 2, [0, 13], [[0, 4], [1, 3]])
        self.check_steps(1, 2, [9, 4], [[0, 12], [0, 12]])
        self.check_steps(1, 2, [9, 4], [[0, 13], [1, 12]])

    def test_all_water_in_one_corner(self):
        for corner, one, other in ((0, 1, 2), (1, 0, 3), (2, 0, 3), (3, 1, 2)):
            first = [0] * 4
            first[corner] = MOST
            after = [0] * 4
            after[corner] = MOST - 2 * (MOST // 8)
            after[one] = after[other] = MOST // 8
            self.check_steps(2, 2, [0] * 4, [first, after])

    def test_island_in_a_lake(self):
        ground = [0, 0, 0, 0, 500, 0, 0, 0, 0]
        lake = [40, 40, 40, 40, 0, 40, 40, 40, 40]
        self.check_steps(3, 3, ground, [lake, lake])


if __name__ == "__main__":
    unittest.main()
