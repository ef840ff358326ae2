"""What holds of boards of many kinds, with and without rain."""

import random
import unittest

from helpers import (HIGHEST, MOST, STILL, TURN, WORK, any_board, cell, cells, counted, full_sweep, land, next_water,
                     number, numbers, rain, split, start, sweep, waters)
from landwater.board import answers


def highest(ground, water):
    return max([g + w for g, w in zip(ground, water) if w > 0], default=0)


def energy(ground, water):
    return sum(w * (w + 2 * g) for g, w in zip(ground, water))


class HoldsTest(unittest.TestCase):
    def test_as_reckoned_by_pairs(self):
        source = random.Random(2)
        for _ in range(150):
            width, height, ground, water = any_board(source)
            board = land(width, height, ground, water)
            for turned in range(8):
                after = next_water(width, height, ground, board.water_now())
                sweep(board)
                self.assertEqual(board.water_now(), after)

    def test_never_higher_and_always_less_energy(self):
        source = random.Random(3)
        for _ in range(150):
            width, height, ground, water = any_board(source)
            board = land(width, height, ground, water)
            for turned in range(8):
                before = list(board.water_now())
                sweep(board)
                after = board.water_now()
                self.assertLessEqual(highest(ground, after), highest(ground, before))
                if after != before:
                    self.assertLess(energy(ground, after), energy(ground, before))

    def test_nothing_is_lost(self):
        source = random.Random(4)
        for _ in range(60):
            width, height, ground, water = any_board(source)
            board = land(width, height, ground, water)
            fallen = sum(water)
            for step in range(80):
                k = source.randint(0, 50)
                wanted = 0 if fallen + k <= MOST else -28
                choice = source.randint(0, 3)
                if choice == 0:
                    answered = board.wl_rain(source.randrange(width), source.randrange(height), k)
                    self.assertEqual(answered, wanted)
                    fallen += k if wanted == 0 else 0
                elif choice == 1:
                    board.wl_turn()
                else:
                    board.wl_work()
                self.assertEqual(board.fallen, fallen)
                self.assertEqual(sum(board.water_now()) + sum(board.rain), fallen)
                self.assertGreaterEqual(min(board.water_now() + board.water_coming() + board.rain), 0)

    def test_no_sooner_than_it_can_flow(self):
        source = random.Random(5)
        for _ in range(20):
            ground = [source.randint(0, 50) for _ in range(9)]
            water = [source.randint(0, 90) for _ in range(9)]
            other = water[:8] + [water[8] + 500]
            one, two = land(9, 1, ground, water), land(9, 1, ground, other)
            for turned in range(1, 6):
                sweep(one)
                sweep(two)
                self.assertEqual(one.water_now()[:8 - turned], two.water_now()[:8 - turned])


def small_board(source):
    """A board that comes to rest soon."""
    width = source.randint(1, 4)
    height = source.randint(1, 4)
    ground = [source.randint(0, 40) for _ in range(width * height)]
    water = [source.choice([0, 3, 4, source.randint(0, 60)]) for _ in range(width * height)]
    return width, height, ground, water


class ToldTest(unittest.TestCase):
    """What holds, as the calls tell it."""

    def test_a_nothing_is_lost(self):
        source = random.Random(21)
        for _ in range(60):
            width, height, ground, water = any_board(source)
            calls = start(width, height, ground, water)
            fallen, waits, wanted = sum(water), 0, []
            while len(wanted) < 12:
                for rows in range(height):
                    k = source.randint(0, 50)
                    x, y = source.randrange(width), source.randrange(height)
                    if fallen + k <= MOST:
                        calls += rain(x, y, k)
                        fallen += k
                        waits += k
                    calls += WORK
                    wanted.append((fallen, waits))
                    calls += cells(width, height)
                calls += TURN
                waits = 0
                wanted.append((fallen, waits))
                calls += cells(width, height)
            self.check_sums(calls, width * height, wanted)

    def check_sums(self, calls, places, wanted):
        now = waters([one for one in split(answers(calls)) if one[0] == 1])
        self.assertEqual(len(now), places * len(wanted))
        self.assertGreaterEqual(min(now), 0)
        for at, (fallen, waits) in enumerate(wanted):
            self.assertEqual(sum(now[at * places:(at + 1) * places]) + waits, fallen)

    def test_b_never_higher(self):
        source = random.Random(22)
        for _ in range(100):
            width, height, ground, water = any_board(source)
            told = split(answers(start(width, height, ground, water) + (HIGHEST + full_sweep(height)) * 20))
            tops = [one[2] for one in told if one[0] == 1]
            self.assertEqual(len(tops), 20)
            self.assertEqual(tops, sorted(tops, reverse=True))

    def test_b_higher_by_rain_alone(self):
        calls = start(2, 1, [0, 0], [10, 10]) + (HIGHEST + full_sweep(1)) * 2 + rain(0, 0, 5) + full_sweep(1) + HIGHEST
        swept = numbers(1, 0)
        self.assertEqual(answers(calls), number(0) + (counted(10) + swept) * 2 + number(0) + swept + counted(15))

    def test_b_still_is_still(self):
        source = random.Random(23)
        for _ in range(100):
            width, height, ground, water = small_board(source)
            seen = STILL + cells(width, height) + full_sweep(height)
            told = split(answers(start(width, height, ground, water) + seen * 30))
            length = 1 + width * height + height + 1
            each = [told[1 + at * length:1 + (at + 1) * length] for at in range(30)]
            still = [one[0][1] for one in each]
            self.assertEqual(still, sorted(still))
            for one, other in zip(each, each[1:]):
                same = one[1:-height - 1] == other[1:-height - 1]
                if one[0] == [0, 1]:
                    self.assertTrue(same)

    def test_b_still_until_it_rains(self):
        calls = start(2, 1, [0, 0], [7, 0]) + (STILL + full_sweep(1)) * 3
        calls += rain(0, 0, 1) + STILL + full_sweep(1) + STILL
        self.assertEqual(answers(calls), numbers(0, 1, 1, 0, 1, 1, 0, 1, 1, 0, 0, 1, 1, 0, 0))

    def test_c_comes_to_rest(self):
        source = random.Random(24)
        for _ in range(60):
            width, height, ground, water = small_board(source)
            board = land(width, height, ground, water)
            at_first = energy(ground, water)
            steps = 0
            while board.wl_still() == 0:
                before = energy(ground, board.water_now())
                sweep(board)
                steps += 1
                self.assertLess(energy(ground, board.water_now()), before)
            self.assertLessEqual(steps, at_first)
            told = answers(start(width, height, ground, water) + full_sweep(height) * steps + STILL)
            self.assertEqual(told[-3:], [2, 0, 1])
            if steps > 0:
                told = answers(start(width, height, ground, water) + full_sweep(height) * (steps - 1) + STILL)
                self.assertEqual(told[-3:], [2, 0, 0])

    def test_c_at_rest_nothing_is_far_higher(self):
        calls = start(8, 1, [0] * 8, [4000] + [0] * 7) + full_sweep(1) * 1000 + STILL + cells(8, 1)
        told = split(answers(calls))
        self.assertEqual(told[-9], [0, 1])
        rest = waters(told[-8:])
        self.assertEqual(sum(rest), 4000)
        for one, other in zip(rest, rest[1:]):
            self.assertLess(abs(one - other), 8)

    def test_d_hangs_on_the_sweep_alone(self):
        source = random.Random(25)
        others = [cell(0, 0), cell(99, 0), HIGHEST, STILL, rain(0, 0, 0), rain(99, 0, 5), rain(0, 0, 2 ** 31),
                  start(0, 1, [], []), start(1, 1, [MOST + 1], [0])]
        for _ in range(60):
            width, height, ground, water = any_board(source)
            begin = start(width, height, ground, water)
            plain = list(begin)
            mixed = list(begin)
            for turned in range(6):
                plain += full_sweep(height)
                for rows in range(height):
                    mixed += source.choice(others) + TURN + WORK
                mixed += source.choice(others) + WORK * source.randint(0, 2) + TURN
            seen = cells(width, height)
            places = width * height
            self.assertEqual(split(answers(plain + seen))[-places:], split(answers(mixed + seen))[-places:])

    def test_d_water_comes_no_further_than_the_sweep(self):
        far = 5
        ground = [0] * 121
        water = [0] * 121
        water[60] = MOST
        calls = start(11, 11, ground, water)
        for turned in range(1, far + 1):
            calls += full_sweep(11) + cells(11, 11)
        told = [one for one in split(answers(calls)) if one[0] == 1]
        for turned in range(1, far + 1):
            now = waters(told[(turned - 1) * 121:turned * 121])
            for y in range(11):
                for x in range(11):
                    near = abs(x - 5) + abs(y - 5) <= turned
                    self.assertEqual(now[y * 11 + x] > 0, near, (turned, x, y))

    def test_d_what_lies_further_away_does_not_count(self):
        source = random.Random(26)
        for _ in range(40):
            width, height, ground, water = any_board(source)
            x, y = source.randrange(width), source.randrange(height)
            other_ground, other_water = list(ground), list(water)
            other_ground[y * width + x] = source.randint(0, MOST)
            other_water[y * width + x] = source.randint(0, MOST - sum(water) + water[y * width + x])
            sweeps = source.randint(0, 4)
            behind = full_sweep(height) * sweeps + cells(width, height)
            one = split(answers(start(width, height, ground, water) + behind))
            other = split(answers(start(width, height, other_ground, other_water) + behind))
            self.assertEqual(one[0], [0, 0])
            self.assertEqual(other[0], [0, 0])
            for at in range(width * height):
                if abs(at % width - x) + abs(at // width - y) > sweeps:
                    self.assertEqual(one[at - width * height], other[at - width * height])


if __name__ == "__main__":
    unittest.main()
