"""Point 5: wl_highest."""

import unittest

from helpers import HIGHEST, MOST, TURN, WORK, counted, everything, full_sweep, land, number, numbers, rain, start
from landwater.board import answers


class HighestTest(unittest.TestCase):
    def check(self, width, height, ground, water, highest):
        self.assertEqual(answers(start(width, height, ground, water) + HIGHEST), number(0) + counted(highest))

    def test_level_is_ground_and_water(self):
        self.check(1, 1, [5], [7], 12)

    def test_neither_the_most_water_nor_the_most_ground(self):
        self.check(3, 1, [0, 30, 90], [100, 80, 1], 110)

    def test_at_any_place(self):
        for place in range(6):
            with self.subTest(place=place):
                water = [1] * 6
                water[place] = 9
                self.check(3, 2, [4] * 6, water, 13)

    def test_none_has_water(self):
        self.check(1, 1, [0], [0], 0)
        self.check(2, 2, [5, 6, 7, MOST], [0] * 4, 0)

    def test_hill_without_water(self):
        self.check(3, 1, [500, 2, 500], [0, 40, 0], 42)
        self.check(2, 1, [MOST, 0], [0, 1], 1)

    def test_water_of_1_counts(self):
        self.check(2, 1, [500, 2], [1, 40], 501)

    def test_ground_of_the_most(self):
        self.check(2, 1, [MOST, MOST], [0, 1], MOST + 1)
        self.check(1, 1, [MOST], [MOST], 2 ** 31)

    def test_water_now(self):
        calls = start(1, 2, [0, 0], [80, 0]) + (HIGHEST + WORK + HIGHEST + WORK + HIGHEST + TURN) * 2 + HIGHEST
        first = counted(80) + number(1) + counted(80) + number(1) + counted(80) + number(0)
        second = counted(70) + number(1) + counted(70) + number(1) + counted(70) + number(0)
        self.assertEqual(answers(calls), number(0) + first + second + counted(63))

    def test_rain_that_waits_does_not_count(self):
        calls = start(2, 1, [9, 0], [0, 4]) + rain(0, 0, 50) + HIGHEST + WORK + HIGHEST + TURN + HIGHEST
        self.assertEqual(answers(calls), numbers(0, 0) + counted(4) + number(1) + counted(4) + number(0) + counted(59))

    def test_rain_alone(self):
        calls = start(1, 1, [9], [0]) + rain(0, 0, 1) + HIGHEST + full_sweep(1) + HIGHEST
        self.assertEqual(answers(calls), numbers(0, 0) + counted(0) + numbers(1, 0) + counted(10))

    def test_place_that_runs_dry(self):
        ground = [0, 0, 0, 0, 1000, 0, 0, 0, 0]
        calls = start(3, 3, ground, [0, 0, 0, 0, 100, 0, 0, 0, 0]) + HIGHEST + full_sweep(3) + HIGHEST
        self.assertEqual(answers(calls), number(0) + counted(1100) + numbers(1, 1, 1, 0) + counted(25))

    def test_start_again(self):
        calls = start(1, 1, [7], [8]) + HIGHEST + start(1, 1, [3], [0]) + HIGHEST + start(0, 0, [], []) + HIGHEST
        self.assertEqual(answers(calls), number(0) + counted(15) + number(0) + counted(0) + number(-22) + counted(0))

    def test_board_stays(self):
        board = land(2, 2, [1, 2, 3, 4], [50, 0, 9, 0])
        board.wl_work()
        board.wl_rain(1, 1, 7)
        before = everything(board)
        self.assertEqual(board.wl_highest(), 51)
        self.assertEqual(everything(board), before)


if __name__ == "__main__":
    unittest.main()
