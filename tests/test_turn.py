"""Point 3: wl_turn."""

import unittest

from helpers import TURN, WORK, everything, land, numbers, rain, start
from landwater.board import answers


class TurnTest(unittest.TestCase):
    def test_some_row_is_not_done(self):
        board = land(1, 3, [0] * 3, [80, 0, 0])
        board.wl_rain(0, 0, 5)
        for rows in range(3):
            before = everything(board)
            self.assertEqual(board.wl_turn(), -11)
            self.assertEqual(everything(board), before)
            board.wl_work()
        self.assertEqual(board.wl_turn(), 0)

    def test_what_is_turned(self):
        board = land(2, 1, [0, 0], [80, 0])
        board.wl_rain(1, 0, 6)
        board.wl_work()
        self.assertEqual(board.wl_turn(), 0)
        self.assertEqual(board.sweep, 1)
        self.assertEqual(board.states, [0])
        self.assertEqual(board.rain, [0, 0])
        self.assertEqual(board.water_now(), [70, 16])
        self.assertEqual(board.fallen, 86)

    def test_rain_falls_once(self):
        board = land(1, 1, [0], [0])
        board.wl_rain(0, 0, 6)
        for sweep in range(1, 4):
            board.wl_work()
            board.wl_turn()
            self.assertEqual((board.sweep, board.water_now()), (sweep, [6]))

    def test_now_is_water_of_sweep_modulo_2(self):
        board = land(1, 1, [0], [3])
        board.wl_work()
        board.wl_turn()
        self.assertEqual(board.water_now(), board.waters[1])
        board.wl_rain(0, 0, 2)
        board.wl_work()
        board.wl_turn()
        self.assertEqual(board.waters, [[5], [3]])
        self.assertEqual(board.water_now(), [5])

    def test_all_rows_wait_again(self):
        calls = start(1, 2, [0, 0], [0, 0]) + (TURN + WORK + TURN + WORK + WORK + TURN) * 2
        self.assertEqual(answers(calls), numbers(0, *([-11, 1, -11, 1, 0, 0] * 2)))

    def test_last_sweep(self):
        board = land(1, 1, [0], [3])
        board.sweep = 2 ** 40
        board.wl_rain(0, 0, 4)
        self.assertEqual(board.wl_turn(), -11)
        board.wl_work()
        before = everything(board)
        self.assertEqual(board.wl_turn(), -28)
        self.assertEqual(everything(board), before)

    def test_up_to_the_last_sweep(self):
        board = land(1, 1, [0], [3])
        board.sweep = 2 ** 40 - 1
        board.wl_work()
        self.assertEqual(board.wl_turn(), 0)
        self.assertEqual(board.sweep, 2 ** 40)
        board.wl_work()
        self.assertEqual(board.wl_turn(), -28)

    def test_after_rain_on_turn(self):
        calls = start(1, 1, [0], [0]) + WORK + rain(0, 0, 9) + TURN + TURN + WORK + TURN
        self.assertEqual(answers(calls), numbers(0, 1, 0, 0, -11, 1, 0))


if __name__ == "__main__":
    unittest.main()
