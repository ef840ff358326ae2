"""What flows between two places."""

import random
import unittest

from landwater.flow import flow, level

MOST = 2 ** 30


class FlowTest(unittest.TestCase):
    def test_level(self):
        self.assertEqual(level(5, 7), 12)
        self.assertEqual(level(MOST, MOST), 2 ** 31)

    def test_eighth_of_the_difference(self):
        self.assertEqual(flow(0, 100, 0, 0), 12)
        self.assertEqual(flow(0, 100, 0, 60), 5)

    def test_quarter_of_the_water(self):
        self.assertEqual(flow(1000, 100, 0, 0), 25)
        self.assertEqual(flow(1000, 103, 0, 0), 25)

    def test_other_way_is_below_0_and_rounded_alike(self):
        self.assertEqual(flow(0, 0, 0, 100), -12)
        self.assertEqual(flow(0, 0, 1000, 103), -25)

    def test_differences_of_7_and_8(self):
        self.assertEqual(flow(7, 4, 4, 0), 0)
        self.assertEqual(flow(8, 4, 4, 0), 1)
        self.assertEqual(flow(4, 0, 7, 4), 0)
        self.assertEqual(flow(4, 0, 8, 4), -1)

    def test_water_of_3_and_4(self):
        self.assertEqual(flow(100, 3, 0, 0), 0)
        self.assertEqual(flow(100, 4, 0, 0), 1)
        self.assertEqual(flow(0, 0, 100, 3), 0)
        self.assertEqual(flow(0, 0, 100, 4), -1)

    def test_equal_levels(self):
        self.assertEqual(flow(10, 20, 20, 10), 0)
        self.assertEqual(flow(0, 0, 0, 0), 0)

    def test_no_water_on_a_hill_beside_a_lake(self):
        self.assertEqual(flow(500, 0, 0, 100), 0)
        self.assertEqual(flow(0, 100, 500, 0), 0)

    def test_levels_of_two_to_the_31st(self):
        self.assertEqual(flow(MOST, MOST, 0, 0), 2 ** 28)
        self.assertEqual(flow(MOST, MOST, MOST, MOST), 0)
        self.assertEqual(flow(MOST, MOST, MOST, 0), 2 ** 27)

    def test_what_holds(self):
        source = random.Random(1)
        for _ in range(2000):
            top = source.choice([10, 40, 1000, MOST])
            a, b, c, d = [source.randint(0, top) for _ in range(4)]
            moved = flow(a, b, c, d)
            self.assertEqual(flow(c, d, a, b), -moved)
            self.assertEqual(flow(a + 9, b, c + 9, d), moved)
            self.assertEqual(moved > 0, a + b - c - d >= 8 and b >= 4)
            self.assertGreaterEqual(flow(a + 5, b, c, d), moved)
            self.assertGreaterEqual(flow(a, b + 5, c, d), moved)
            self.assertLessEqual(flow(a, b, c + 5, d), moved)
            self.assertLessEqual(flow(a, b, c, d + 5), moved)


if __name__ == "__main__":
    unittest.main()
