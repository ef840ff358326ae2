"""Point 4: wl_rain."""

import unittest

from helpers import MOST, everything, land, numbers, rain, start, sweep
from landwater.board import answers


class RainTest(unittest.TestCase):
    def test_rain_waits_at_its_place(self):
        board = land(3, 2, [0] * 6, [1] * 6)
        self.assertEqual(board.wl_rain(2, 1, 8), 0)
        self.assertEqual(board.wl_rain(1, 0, 5), 0)
        self.assertEqual(board.wl_rain(2, 1, 4), 0)
        self.assertEqual(board.rain, [0, 5, 0, 0, 0, 12])
        self.assertEqual(board.fallen, 6 + 17)
        self.assertEqual(board.water_now(), [1] * 6)
        self.assertEqual(board.water_coming(), [0] * 6)

    def test_off_the_land(self):
        board = land(3, 2, [0] * 6, [1] * 6)
        before = everything(board)
        for x, y in ((3, 0), (0, 2), (3, 2), (2 ** 32 - 1, 0), (0, 2 ** 32 - 1), (2, 2), (3, 1)):
            with self.subTest(x=x, y=y):
                self.assertEqual(board.wl_rain(x, y, 1), -22)
                self.assertEqual(board.wl_rain(x, y, 0), -22)
        self.assertEqual(everything(board), before)
        for x, y in ((0, 0), (2, 0), (0, 1), (2, 1)):
            self.assertEqual(board.wl_rain(x, y, 1), 0)

    def test_off_the_land_is_named_first(self):
        calls = start(1, 1, [0], [MOST]) + rain(1, 0, 1) + rain(0, 1, 2 ** 32 - 1) + rain(0, 0, 1)
        self.assertEqual(answers(calls), numbers(0, -22, -22, -28))

    def test_up_to_the_most_and_one_more(self):
        board = land(2, 1, [0, 0], [10, 20])
        before = everything(board)
        self.assertEqual(board.wl_rain(0, 0, MOST - 29), -28)
        self.assertEqual(board.wl_rain(0, 0, 2 ** 32 - 1), -28)
        self.assertEqual(everything(board), before)
        self.assertEqual(board.wl_rain(0, 0, MOST - 30), 0)
        self.assertEqual(board.fallen, MOST)
        self.assertEqual(board.wl_rain(1, 0, 1), -28)
        self.assertEqual(board.wl_rain(1, 0, 0), 0)

    def test_fallen_stays_behind_a_turn(self):
        board = land(1, 1, [0], [0])
        self.assertEqual(board.wl_rain(0, 0, MOST), 0)
        sweep(board)
        self.assertEqual(board.fallen, MOST)
        self.assertEqual(board.wl_rain(0, 0, 1), -28)

    def test_rain_on_a_row_that_is_done(self):
        board = land(1, 2, [0, 0], [80, 0])
        board.wl_work()
        self.assertEqual(board.wl_rain(0, 0, 1000), 0)
        self.assertEqual(board.states, [2, 0])
        self.assertEqual(board.water_coming(), [70, 0])
        board.wl_work()
        self.assertEqual(board.water_coming(), [70, 10])
        board.wl_turn()
        self.assertEqual(board.water_now(), [1070, 10])

    def test_rain_that_waits_does_not_flow(self):
        board = land(2, 1, [0, 0], [0, 0])
        board.wl_rain(0, 0, 800)
        board.wl_work()
        self.assertEqual(board.water_coming(), [0, 0])
        board.wl_turn()
        self.assertEqual(board.water_now(), [800, 0])
        sweep(board)
        self.assertEqual(board.water_now(), [700, 100])

    def test_rain_that_waits_holds_nothing_up(self):
        board = land(2, 1, [0, 0], [80, 0])
        board.wl_rain(1, 0, 800)
        sweep(board)
        self.assertEqual(board.water_now(), [70, 810])


if __name__ == "__main__":
    unittest.main()
