"""What holds of boards of many kinds, with and without rain."""

import random
import unittest

from helpers import MOST, land, next_water, sweep


def any_board(source):
    width = source.randint(1, 6)
    height = source.randint(1, 6)
    places = width * height
    steep = source.choice([0, 10, 100, MOST])
    wet = source.choice([5, 40, 1000, MOST // places])
    ground = [source.randint(0, steep) for _ in range(places)]
    water = [source.choice([0, source.randint(0, wet)]) for _ in range(places)]
    return width, height, ground, water


def highest(ground, water):
    return max([g + w for g, w in zip(ground, water) if w > 0], default=0)


def energy(ground, water):
    return sum(w * (w + 2 * g) for g, w in zip(ground, water))


class HoldsTest(unittest.TestCase):
    def test_as_reckoned_by_pairs(self):
        source = random.Random(2)
        for _ in range(150):
            width, height, ground, water = any_board(source)
            board = land(width, height, ground, water)
            for turned in range(8):
                after = next_water(width, height, ground, board.water_now())
                sweep(board)
                self.assertEqual(board.water_now(), after)

    def test_never_higher_and_always_less_energy(self):
        source = random.Random(3)
        for _ in range(150):
            width, height, ground, water = any_board(source)
            board = land(width, height, ground, water)
            for turned in range(8):
                before = list(board.water_now())
                sweep(board)
                after = board.water_now()
                self.assertLessEqual(highest(ground, after), highest(ground, before))
                if after != before:
                    self.assertLess(energy(ground, after), energy(ground, before))

    def test_nothing_is_lost(self):
        source = random.Random(4)
        for _ in range(60):
            width, height, ground, water = any_board(source)
            board = land(width, height, ground, water)
            fallen = sum(water)
            for step in range(80):
                k = source.randint(0, 50)
                wanted = 0 if fallen + k <= MOST else -28
                choice = source.randint(0, 3)
                if choice == 0:
                    answered = board.wl_rain(source.randrange(width), source.randrange(height), k)
                    self.assertEqual(answered, wanted)
                    fallen += k if wanted == 0 else 0
                elif choice == 1:
                    board.wl_turn()
                else:
                    board.wl_work()
                self.assertEqual(board.fallen, fallen)
                self.assertEqual(sum(board.water_now()) + sum(board.rain), fallen)
                self.assertGreaterEqual(min(board.water_now() + board.water_coming() + board.rain), 0)

    def test_no_sooner_than_it_can_flow(self):
        source = random.Random(5)
        for _ in range(20):
            ground = [source.randint(0, 50) for _ in range(9)]
            water = [source.randint(0, 90) for _ in range(9)]
            other = water[:8] + [water[8] + 500]
            one, two = land(9, 1, ground, water), land(9, 1, ground, other)
            for turned in range(1, 6):
                sweep(one)
                sweep(two)
                self.assertEqual(one.water_now()[:8 - turned], two.water_now()[:8 - turned])


if __name__ == "__main__":
    unittest.main()
