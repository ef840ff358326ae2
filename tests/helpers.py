"""What several test files use: calls in numbers, answers in numbers, and a second way to reckon."""

from landwater.land import Land

MOST = 2 ** 30
WORK = [1]
TURN = [2]
HIGHEST = [5]
STILL = [6]


def start(width, height, ground, water):
    return [0, width, height, len(ground)] + ground + [len(water)] + water


def rain(x, y, k):
    return [3, x, y, k]


def cell(x, y):
    return [4, x, y]


def cells(width, height):
    """wl_cell of every place, row by row."""
    calls = []
    for y in range(height):
        for x in range(width):
            calls += cell(x, y)
    return calls


def full_sweep(height):
    """All rows done, and the turn."""
    return WORK * height + TURN


def number(value):
    """A number that is answered alone, as answers() gives it back."""
    return [2, 0, value]


def numbers(*values):
    told = []
    for value in values:
        told += number(value)
    return told


def counted(*values):
    """Numbers that are answered with how many they are, as answers() gives them back."""
    return [2 + len(values), 1, len(values), *values]


def split(told):
    """What is answered, call by call, each with its form and without its count."""
    each = []
    at = 0
    while at < len(told):
        each.append(told[at + 1:at + 1 + told[at]])
        assert len(each[-1]) == told[at]
        at += 1 + told[at]
    return each


def waters(each):
    """The waters in what wl_cell answered."""
    for one in each:
        assert len(one) == 4 and one[:2] == [1, 2]
    return [one[3] for one in each]


def land(width, height, ground, water):
    made = Land()
    assert made.wl_start(width, height, ground, water) == 0
    return made


def sweep(board):
    """Do all rows and turn the sweep."""
    while board.wl_work() == 1:
        pass
    assert board.wl_turn() == 0


def everything(board):
    """All that a board holds, copied."""
    return (board.sweep, board.width, board.height, board.fallen, list(board.states), list(board.ground),
            list(board.rain), [list(water) for water in board.waters])


def any_board(source, widest=6):
    """Width, height, ground and water, drawn from a random source."""
    width = source.randint(1, widest)
    height = source.randint(1, widest)
    places = width * height
    steep = source.choice([0, 10, 100, MOST])
    wet = source.choice([5, 40, 1000, MOST // places])
    ground = [source.randint(0, steep) for _ in range(places)]
    water = [source.choice([0, source.randint(0, wet)]) for _ in range(places)]
    return width, height, ground, water


def next_water(width, height, ground, water):
    """The whole step reckoned by pairs of neighbours: each flow is taken off the one and put on the other."""
    after = list(water)
    for y in range(height):
        for x in range(width):
            a = y * width + x
            pairs = []
            if x + 1 < width:
                pairs.append(a + 1)
            if y + 1 < height:
                pairs.append(a + width)
            for b in pairs:
                top, bottom = (a, b) if ground[a] + water[a] >= ground[b] + water[b] else (b, a)
                higher = ground[top] + water[top] - ground[bottom] - water[bottom]
                moved = min(water[top] // 4, higher // 8)
                after[top] -= moved
                after[bottom] += moved
    return after


class Reckoned:
    """A second board, written another way: the whole sweep is reckoned at once, when it is turned."""

    def __init__(self):
        self.calls = [self.start, self.work, self.turn, self.rain, self.cell, self.highest, self.still]

    def answer(self, call):
        return self.calls[call[0]](*call[1:])

    def start(self, width, height, *rows):
        ground = list(rows[1:1 + rows[0]])
        water = list(rows[2 + rows[0]:])
        if not 1 <= width <= 64 or not 1 <= height <= 64 or max(ground) > MOST or sum(water) > MOST:
            return number(-22)
        self.width, self.height, self.ground, self.water = width, height, ground, water
        self.done = 0
        self.fallen = sum(water)
        self.waiting = {}
        return number(0)

    def work(self):
        if self.done == self.height:
            return number(0)
        self.done += 1
        return number(1)

    def turn(self):
        if self.done < self.height:
            return number(-11)
        self.water = next_water(self.width, self.height, self.ground, self.water)
        for (x, y), k in self.waiting.items():
            self.water[y * self.width + x] += k
        self.waiting = {}
        self.done = 0
        return number(0)

    def rain(self, x, y, k):
        if x not in range(self.width) or y not in range(self.height):
            return number(-22)
        if self.fallen + k > MOST:
            return number(-28)
        self.fallen += k
        self.waiting[x, y] = self.waiting.get((x, y), 0) + k
        return number(0)

    def cell(self, x, y):
        if x not in range(self.width) or y not in range(self.height):
            return number(-22)
        return counted(self.ground[y * self.width + x], self.water[y * self.width + x])

    def highest(self):
        highest = 0
        for ground, water in zip(self.ground, self.water):
            if water != 0 and ground + water > highest:
                highest = ground + water
        return counted(highest)

    def still(self):
        # Pair by pair: on the land as a whole what flows in may be as much as what flows out.
        for y in range(self.height):
            for x in range(self.width):
                for away, there in ((1, (x + 1, y)), (self.width, (x, y + 1))):
                    if there[0] < self.width and there[1] < self.height:
                        a = y * self.width + x
                        pair = [self.water[a], self.water[a + away]]
                        if next_water(2, 1, [self.ground[a], self.ground[a + away]], pair) != pair:
                            return number(0)
        return number(1)
