"""Point 5: wl_still."""

import unittest

from helpers import MOST, STILL, TURN, WORK, everything, full_sweep, land, numbers, rain, start
from landwater.board import answers
from landwater.flow import flow, flows_among


def is_still(width, height, ground, water):
    told = answers(start(width, height, ground, water) + STILL)
    assert told[:5] == [2, 0, 0, 2, 0] and len(told) == 6
    return told[5]


def pair(width, height, top, bottom, lower):
    """Land that is high and dry, but for 4 of water at one place, and another place so much lower."""
    ground = [200] * (width * height)
    water = [0] * (width * height)
    ground[top] = 100
    water[top] = 4
    ground[bottom] = 104 - lower
    return width, height, ground, water


def neighbours(width, height):
    """All pairs of places side by side and above one another."""
    found = []
    for y in range(height):
        for x in range(width):
            if x + 1 < width:
                found.append((y * width + x, y * width + x + 1))
            if y + 1 < height:
                found.append((y * width + x, (y + 1) * width + x))
    return found


class StillTest(unittest.TestCase):
    def check_both_ways(self, ground, water, still):
        """Of two places: on the left, on the right, above, below."""
        for width, height in ((2, 1), (1, 2)):
            with self.subTest(width=width):
                self.assertEqual(is_still(width, height, ground, water), still)
                self.assertEqual(is_still(width, height, ground[::-1], water[::-1]), still)

    def test_differences_of_7_and_8(self):
        self.check_both_ways([0, 0], [7, 0], 1)
        self.check_both_ways([0, 0], [8, 0], 0)
        self.check_both_ways([0, 0], [107, 100], 1)
        self.check_both_ways([0, 0], [108, 100], 0)
        self.check_both_ways([3, 0], [4, 0], 1)
        self.check_both_ways([4, 0], [4, 0], 0)

    def test_water_of_3_and_4(self):
        self.check_both_ways([100, 0], [3, 0], 1)
        self.check_both_ways([100, 0], [4, 0], 0)
        self.check_both_ways([100, 0], [3, 50], 1)
        self.check_both_ways([100, 0], [4, 50], 0)
        self.check_both_ways([MOST, 0], [3, 0], 1)
        self.check_both_ways([MOST, 0], [4, 0], 0)

    def test_much_water_of_the_lower_one_does_not_count(self):
        self.check_both_ways([MOST, 0], [0, 5000], 1)
        self.check_both_ways([MOST, 0], [3, MOST - 3], 1)

    def test_equal_levels(self):
        self.check_both_ways([10, 20], [20, 10], 1)
        self.check_both_ways([0, 0], [0, 0], 1)
        self.check_both_ways([MOST, MOST], [MOST // 2, MOST // 2], 1)

    def test_levels_of_two_to_the_31st(self):
        self.check_both_ways([MOST, MOST], [MOST, 0], 0)
        self.check_both_ways([MOST, 0], [MOST, 0], 0)

    def test_one_place(self):
        for ground in (0, 5, MOST):
            for water in (0, 3, 4, 8, MOST):
                self.assertEqual(is_still(1, 1, [ground], [water]), 1)

    def test_hills_without_water(self):
        self.assertEqual(is_still(3, 2, [0, 90, 5, MOST, 0, 7], [0] * 6), 1)

    def test_one_flow_between_any_two(self):
        for width, height in ((4, 3), (3, 4), (5, 1), (1, 5), (2, 2)):
            for one, other in neighbours(width, height):
                with self.subTest(width=width, height=height, one=one, other=other):
                    self.assertEqual(is_still(*pair(width, height, one, other, 8)), 0)
                    self.assertEqual(is_still(*pair(width, height, other, one, 8)), 0)
                    self.assertEqual(is_still(*pair(width, height, one, other, 7)), 1)
                    self.assertEqual(is_still(*pair(width, height, other, one, 7)), 1)

    def test_places_that_are_not_beside_one_another(self):
        for width, height in ((4, 3), (3, 4), (2, 2), (3, 1), (1, 3)):
            beside = neighbours(width, height)
            for one in range(width * height):
                for other in range(width * height):
                    if one != other and (one, other) not in beside and (other, one) not in beside:
                        with self.subTest(width=width, height=height, one=one, other=other):
                            self.assertEqual(is_still(*pair(width, height, one, other, 104)), 1)

    def test_last_row_and_last_column_of_the_largest_land(self):
        for top, bottom in ((4095, 4094), (4094, 4095), (4095, 4031), (4031, 4095), (4032, 4033), (63, 127), (127, 63)):
            with self.subTest(top=top, bottom=bottom):
                self.assertEqual(is_still(*pair(64, 64, top, bottom, 8)), 0)
                self.assertEqual(is_still(*pair(64, 64, top, bottom, 7)), 1)

    def test_as_much_flows_in_as_out(self):
        # The places in the middle stay as they are, and yet something flows there.
        self.assertEqual(is_still(4, 1, [0] * 4, [24, 16, 8, 0]), 0)

    def test_by_water_now(self):
        calls = start(1, 2, [0, 0], [8, 0]) + STILL + WORK + STILL + WORK + STILL + TURN + STILL + WORK + STILL
        self.assertEqual(answers(calls), numbers(0, 0, 1, 0, 1, 0, 0, 1, 1, 1))

    def test_rain_that_waits_does_not_count(self):
        calls = start(2, 1, [0, 0], [0, 0]) + rain(0, 0, 800) + STILL + WORK + STILL + TURN + STILL
        self.assertEqual(answers(calls), numbers(0, 0, 1, 1, 1, 0, 0))

    def test_rain_that_waits_holds_nothing_up(self):
        calls = start(2, 1, [0, 0], [8, 0]) + rain(1, 0, 8) + STILL + full_sweep(1) + STILL
        self.assertEqual(answers(calls), numbers(0, 0, 0, 1, 0, 1))

    def test_start_again(self):
        calls = (start(2, 1, [0, 0], [8, 0]) + STILL + start(1, 2, [0, 0], [7, 0]) + STILL
                 + start(65, 1, [], []) + STILL)
        self.assertEqual(answers(calls), numbers(0, 0, 0, 1, -22, 1))

    def test_board_stays(self):
        for water in ([50, 0, 9, 0], [0, 0, 0, 0]):
            board = land(2, 2, [1, 2, 3, 4], water)
            board.wl_work()
            board.wl_rain(1, 1, 7)
            before = everything(board)
            board.wl_still()
            self.assertEqual(everything(board), before)

    def test_just_where_a_flow_is_not_0(self):
        heights = (0, 1, 3, 4, 5, 7, 8, 9, 12, 16, 100)
        for a in heights:
            for b in heights:
                for c in heights:
                    for d in heights:
                        self.assertIs(flows_among([b, d], [a + b, c + d], 1), flow(a, b, c, d) != 0)


if __name__ == "__main__":
    unittest.main()
