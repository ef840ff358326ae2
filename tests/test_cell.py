"""Point 5: wl_cell."""

import unittest

from helpers import MOST, TURN, WORK, cell, cells, counted, everything, full_sweep, land, number, numbers, rain, start
from landwater.board import answers

FAR = 2 ** 32 - 1


class CellTest(unittest.TestCase):
    def test_ground_and_water(self):
        calls = start(3, 2, [1, 2, 3, 4, 5, 6], [60, 50, 40, 30, 20, 10]) + cells(3, 2)
        wanted = counted(1, 60) + counted(2, 50) + counted(3, 40) + counted(4, 30) + counted(5, 20) + counted(6, 10)
        self.assertEqual(answers(calls), number(0) + wanted)

    def test_x_is_from_the_left_and_y_from_above(self):
        calls = start(2, 3, [1, 2, 3, 4, 5, 6], [0] * 6) + cell(1, 0) + cell(0, 1) + cell(1, 2)
        self.assertEqual(answers(calls), number(0) + counted(2, 0) + counted(3, 0) + counted(6, 0))

    def test_no_ground_and_no_water(self):
        self.assertEqual(answers(start(1, 1, [0], [0]) + cell(0, 0)), number(0) + counted(0, 0))

    def test_the_most(self):
        self.assertEqual(answers(start(1, 1, [MOST], [MOST]) + cell(0, 0)), number(0) + counted(MOST, MOST))

    def test_off_the_land(self):
        begin = start(3, 2, [0] * 6, [1] * 6)
        for x, y in ((3, 0), (3, 1), (0, 2), (2, 2), (3, 2), (FAR, 0), (FAR, 1), (0, FAR), (2, FAR), (FAR, FAR)):
            with self.subTest(x=x, y=y):
                self.assertEqual(answers(begin + cell(x, y)), numbers(0, -22))
        for x, y in ((0, 0), (2, 0), (0, 1), (2, 1)):
            with self.subTest(x=x, y=y):
                self.assertEqual(answers(begin + cell(x, y)), number(0) + counted(0, 1))

    def test_off_the_land_of_one_row_or_column(self):
        self.assertEqual(answers(start(4, 1, [0] * 4, [1] * 4) + cell(0, 1) + cell(4, 0)), numbers(0, -22, -22))
        self.assertEqual(answers(start(1, 4, [0] * 4, [1] * 4) + cell(1, 0) + cell(0, 4)), numbers(0, -22, -22))
        self.assertEqual(answers(start(1, 1, [0], [1]) + cell(1, 0) + cell(0, 1)), numbers(0, -22, -22))

    def test_off_the_largest_land(self):
        calls = start(64, 64, list(range(4096)), [1] * 4096) + cell(63, 63) + cell(64, 63) + cell(63, 64)
        self.assertEqual(answers(calls), number(0) + counted(4095, 1) + numbers(-22, -22))

    def test_water_now_while_rows_are_done(self):
        begin = start(1, 3, [0, 5, 0], [80, 0, 0])
        now = counted(0, 80) + counted(5, 0) + counted(0, 0)
        for done in range(4):
            with self.subTest(done=done):
                told = answers(begin + WORK * done + cells(1, 3))
                self.assertEqual(told, numbers(0, *[1] * done) + now)

    def test_water_behind_a_turn(self):
        calls = start(1, 2, [0, 0], [80, 0]) + (full_sweep(2) + cells(1, 2)) * 3
        swept = numbers(1, 1, 0)
        self.assertEqual(answers(calls), number(0) + swept + counted(0, 70) + counted(0, 10)
                         + swept + counted(0, 63) + counted(0, 17) + swept + counted(0, 58) + counted(0, 22))

    def test_water_now_while_rows_are_done_behind_a_turn(self):
        calls = start(1, 2, [0, 0], [80, 0]) + full_sweep(2) + WORK + cells(1, 2) + WORK + cells(1, 2)
        now = counted(0, 70) + counted(0, 10)
        self.assertEqual(answers(calls), numbers(0, 1, 1, 0, 1) + now + number(1) + now)

    def test_rain_that_waits_is_not_told(self):
        calls = (start(1, 2, [9, 0], [3, 0]) + rain(0, 0, 50) + cell(0, 0) + WORK + rain(0, 0, 1) + cell(0, 0)
                 + WORK + cell(0, 0) + TURN + cell(0, 0))
        waits = counted(9, 3)
        self.assertEqual(answers(calls), numbers(0, 0) + waits + numbers(1, 0) + waits + number(1) + waits
                         + number(0) + counted(9, 54))

    def test_turn_that_is_refused(self):
        calls = start(1, 2, [0, 0], [80, 0]) + rain(0, 0, 5) + WORK + TURN + cells(1, 2)
        self.assertEqual(answers(calls), numbers(0, 0, 1, -11) + counted(0, 80) + counted(0, 0))

    def test_start_again_and_start_that_is_refused(self):
        calls = (start(1, 1, [1], [2]) + cell(0, 0) + start(1, 1, [MOST + 1], [0]) + cell(0, 0)
                 + start(2, 1, [3, 4], [5, 6]) + cell(1, 0))
        self.assertEqual(answers(calls), number(0) + counted(1, 2) + number(-22) + counted(1, 2)
                         + number(0) + counted(4, 6))

    def test_board_stays(self):
        board = land(2, 2, [1, 2, 3, 4], [50, 0, 9, 0])
        board.wl_work()
        board.wl_rain(1, 1, 7)
        before = everything(board)
        for x, y in ((0, 0), (1, 1), (2, 0), (0, 2)):
            board.wl_cell(x, y)
        self.assertEqual(everything(board), before)

    def test_what_is_given_back_is_not_the_boards_own(self):
        board = land(1, 1, [1], [50])
        told = board.wl_cell(0, 0)
        told[1] = 99
        self.assertEqual(board.wl_cell(0, 0), [1, 50])


if __name__ == "__main__":
    unittest.main()
