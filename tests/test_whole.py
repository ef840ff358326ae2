"""The whole program: lists of all seven calls, held against a second board that is written another way."""

import random
import unittest

from helpers import HIGHEST, MOST, STILL, TURN, WORK, Reckoned, any_board, cell, rain, start
from landwater.board import answers


def refused_start(source):
    return source.choice([start(0, 1, [], []), start(1, 65, [], []), start(1, 1, [MOST + 1], [0]),
                          start(2, 1, [0, 0], [MOST, 1])])


def any_call(source, widest):
    x = source.choice([source.randint(0, widest), 0])
    y = source.choice([source.randint(0, widest), 0])
    k = source.choice([0, 1, 30, source.randint(0, 5000), MOST // 2])
    choice = source.randint(0, 99)
    if choice < 45:
        return WORK
    if choice < 60:
        return TURN
    if choice < 70:
        return rain(x, y, k)
    if choice < 85:
        return cell(x, y)
    if choice < 91:
        return HIGHEST
    if choice < 97:
        return STILL
    if choice < 98:
        return start(*any_board(source, widest))
    return refused_start(source)


class WholeTest(unittest.TestCase):
    def check(self, calls):
        """Ask the calls, one list in all, and hold what is answered against the second board."""
        board = Reckoned()
        together = []
        wanted = []
        for call in calls:
            together += call
            wanted += board.answer(call)
        self.assertLessEqual(len(calls), 3000)
        self.assertLessEqual(len(together), 30000)
        before = list(together)
        # Not assertEqual: to show how two long lists differ takes it many minutes.
        self.assertTrue(answers(together) == wanted)
        self.assertTrue(together == before)

    def test_calls_in_any_order(self):
        source = random.Random(11)
        for _ in range(300):
            widest = source.randint(1, 6)
            self.check([start(*any_board(source, widest))] + [any_call(source, widest) for _ in range(80)])

    def test_3000_calls(self):
        source = random.Random(12)
        self.check([start(*any_board(source, 5))] + [any_call(source, 5) for _ in range(2999)])

    def test_3000_calls_on_the_largest_land(self):
        source = random.Random(13)
        ground = [source.randint(0, 60) for _ in range(4096)]
        water = [source.choice([0, 3, 4, 500, 2 ** 17]) for _ in range(4096)]
        calls = [start(64, 64, ground, water)]
        for _ in range(41):
            calls += [WORK] * 63
            calls += [TURN, cell(63, 63), rain(63, 63, 90), WORK, rain(source.randrange(64), 0, 7), TURN]
            calls += [cell(63, 63), HIGHEST, STILL]
        calls += [cell(63, y) for y in range(3000 - len(calls))]
        self.assertEqual(len(calls), 3000)
        self.check(calls)

    def test_3000_times_the_same(self):
        begin = start(64, 64, [3] * 4096, [2 ** 18] * 4096)
        for call, told in ((WORK, None), (TURN, [2, 0, -11]), (rain(0, 0, 0), [2, 0, 0]),
                           (cell(63, 63), [4, 1, 2, 3, 2 ** 18]), (HIGHEST, [3, 1, 1, 2 ** 18 + 3]),
                           (STILL, [2, 0, 1])):
            with self.subTest(call=call):
                wanted = [2, 0, 1] * 64 + [2, 0, 0] * 2935 if told is None else told * 2999
                self.assertTrue(answers(begin + call * 2999) == [2, 0, 0] + wanted)

    def test_many_starts(self):
        calls = []
        for k in range(1000):
            calls += [start(1, 1, [k], [k]), WORK, cell(0, 0)]
        self.check(calls)

    def test_many_sweeps(self):
        calls = [start(1, 1, [2], [9])] + [WORK, TURN] * 1498 + [cell(0, 0), HIGHEST, STILL]
        self.assertEqual(len(calls), 3000)
        self.check(calls)

    def test_one_list_by_itself_each_time(self):
        source = random.Random(14)
        lists = []
        for _ in range(20):
            calls = start(*any_board(source, 4))
            for _ in range(40):
                calls += any_call(source, 4)
            lists.append(calls)
        first = [answers(calls) for calls in lists]
        again = [answers(calls) for calls in reversed(lists)]
        self.assertTrue(first == again[::-1])


if __name__ == "__main__":
    unittest.main()
