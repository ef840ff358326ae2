"""The corners that the document lists, as the calls tell them."""

import unittest

from helpers import (HIGHEST, MOST, STILL, TURN, WORK, cell, cells, counted, full_sweep, number, numbers, rain, split,
                     start, waters)
from landwater.board import answers


def run(width, height, ground, water, sweeps):
    """Of each sweep the highest level, if it is still, and the waters."""
    calls = start(width, height, ground, water)
    for _ in range(sweeps):
        calls += HIGHEST + STILL + cells(width, height) + full_sweep(height)
    told = split(answers(calls))
    assert told[0] == [0, 0]
    length = 2 + width * height + height + 1
    each = [told[1 + at * length:1 + (at + 1) * length] for at in range(sweeps)]
    return [(one[0][2], one[1][1], waters(one[2:2 + width * height])) for one in each]


class CornersTest(unittest.TestCase):
    def test_one_place(self):
        self.assertEqual(run(1, 1, [7], [MOST], 3), [(MOST + 7, 1, [MOST])] * 3)
        self.assertEqual(run(1, 1, [MOST], [0], 3), [(0, 1, [0])] * 3)

    def test_one_row(self):
        wanted = [(64, 0, [0, 64, 0, 0]), (48, 0, [8, 48, 8, 0]), (38, 0, [13, 38, 12, 1])]
        self.assertEqual(run(4, 1, [0] * 4, [0, 64, 0, 0], 3), wanted)
        self.assertEqual(run(1, 4, [0] * 4, [0, 64, 0, 0], 3), wanted)

    def test_lake_with_an_island(self):
        ground = [0] * 12 + [500] + [0] * 12
        lake = [40] * 12 + [0] + [40] * 12
        self.assertEqual(run(5, 5, ground, lake, 3), [(40, 1, lake)] * 3)

    def test_rain_on_the_island(self):
        ground = [0, 0, 0, 0, 500, 0, 0, 0, 0]
        calls = (start(3, 3, ground, [40, 40, 40, 40, 0, 40, 40, 40, 40]) + rain(1, 1, 10) + STILL + full_sweep(3)
                 + cell(1, 1) + STILL + HIGHEST + full_sweep(3) + cells(3, 3) + STILL + HIGHEST)
        now = split(answers(calls))
        self.assertEqual(now[2], [0, 1])
        self.assertEqual(now[7:10], [[1, 2, 500, 10], [0, 0], [1, 1, 510]])
        self.assertEqual(waters(now[14:23]), [40, 42, 40, 42, 2, 42, 40, 42, 40])
        self.assertEqual(now[23:], [[0, 1], [1, 1, 502]])

    def test_lake_that_flows_round_an_island(self):
        ground = [0, 900, 0, 0, 900, 0, 0, 0, 0]
        told = run(3, 3, ground, [800, 0, 0, 0, 0, 0, 0, 0, 0], 400)
        self.assertEqual(told[1], (700, 0, [700, 0, 0, 100, 0, 0, 0, 0, 0]))
        highest, still, rest = told[-1]
        self.assertEqual(still, 1)
        self.assertEqual(sum(rest), 800)
        self.assertEqual((rest[1], rest[4]), (0, 0))
        self.assertGreater(rest[2], 80)

    def test_pit_beside_a_wall(self):
        self.assertEqual(run(3, 1, [MOST, 0, MOST], [0, 100, 0], 3), [(100, 1, [0, 100, 0])] * 3)
        self.assertEqual(run(1, 2, [0, MOST], [MOST, 0], 2), [(MOST, 1, [MOST, 0])] * 2)
        self.assertEqual(run(2, 1, [MOST, 0], [100, 0], 3),
                         [(MOST + 100, 0, [100, 0]), (MOST + 75, 0, [75, 25]), (MOST + 57, 0, [57, 43])])
        self.assertEqual(run(2, 1, [MOST, 0], [MOST, 0], 2),
                         [(2 ** 31, 0, [MOST, 0]), (2 ** 31 - 2 ** 28, 0, [MOST - 2 ** 28, 2 ** 28])])

    def test_water_of_3_on_a_slope(self):
        self.assertEqual(run(3, 1, [200, 100, 0], [3, 0, 0], 3), [(203, 1, [3, 0, 0])] * 3)
        self.assertEqual(run(3, 1, [200, 100, 0], [3, 3, 3], 3), [(203, 1, [3, 3, 3])] * 3)
        self.assertEqual(run(3, 1, [200, 100, 0], [4, 0, 0], 3),
                         [(204, 0, [4, 0, 0])] + [(203, 1, [3, 1, 0])] * 2)

    def test_rain_on_a_row_that_is_done(self):
        calls = (start(1, 2, [0, 0], [80, 0]) + WORK + rain(0, 0, 1000) + WORK + cells(1, 2) + TURN + cells(1, 2)
                 + full_sweep(2) + cells(1, 2))
        self.assertEqual(answers(calls), numbers(0, 1, 0, 1) + counted(0, 80) + counted(0, 0)
                         + number(0) + counted(0, 1070) + counted(0, 10)
                         + numbers(1, 1, 0) + counted(0, 938) + counted(0, 142))

    def test_rain_up_to_the_most_and_one_more(self):
        calls = (start(2, 1, [0, 0], [15, 15]) + rain(0, 0, MOST - 29) + rain(0, 0, MOST - 30) + rain(1, 0, 1)
                 + full_sweep(1) + cells(2, 1) + rain(1, 0, 1) + rain(1, 0, 0) + HIGHEST)
        self.assertEqual(answers(calls), numbers(0, -28, 0, -28, 1, 0) + counted(0, MOST - 15) + counted(0, 15)
                         + numbers(-28, 0) + counted(MOST - 15))

    def test_all_water_in_one_corner(self):
        for corner, one, other in ((0, 1, 2), (1, 0, 3), (2, 0, 3), (3, 1, 2)):
            first = [0] * 4
            first[corner] = MOST
            after = [0] * 4
            after[corner] = MOST - 2 * (MOST // 8)
            after[one] = after[other] = MOST // 8
            self.assertEqual(run(2, 2, [0] * 4, first, 2), [(MOST, 0, first), (after[corner], 0, after)])

    def test_all_water_in_one_corner_of_the_largest_land(self):
        water = [0] * 4095 + [MOST]
        calls = start(64, 64, [0] * 4096, water) + STILL + full_sweep(64) + HIGHEST + STILL
        calls += cell(63, 63) + cell(62, 63) + cell(63, 62) + cell(62, 62)
        eighth = MOST // 8
        self.assertEqual(answers(calls), numbers(0, 0, *[1] * 64, 0) + counted(6 * eighth) + number(0)
                         + counted(0, 6 * eighth) + counted(0, eighth) + counted(0, eighth) + counted(0, 0))


if __name__ == "__main__":
    unittest.main()
