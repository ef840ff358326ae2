"""What several test files use: calls in numbers, answers in numbers, and a second way to reckon."""

from landwater.land import Land

MOST = 2 ** 30
WORK = [1]
TURN = [2]


def start(width, height, ground, water):
    return [0, width, height, len(ground)] + ground + [len(water)] + water


def rain(x, y, k):
    return [3, x, y, k]


def number(value):
    """A number that is answered alone, as answers() gives it back."""
    return [2, 0, value]


def numbers(*values):
    told = []
    for value in values:
        told += number(value)
    return told


def land(width, height, ground, water):
    made = Land()
    assert made.wl_start(width, height, ground, water) == 0
    return made


def sweep(board):
    """Do all rows and turn the sweep."""
    while board.wl_work() == 1:
        pass
    assert board.wl_turn() == 0


def everything(board):
    """All that a board holds, copied."""
    return (board.sweep, board.width, board.height, board.fallen, list(board.states), list(board.ground),
            list(board.rain), [list(water) for water in board.waters])


def next_water(width, height, ground, water):
    """The whole step reckoned by pairs of neighbours: each flow is taken off the one and put on the other."""
    after = list(water)
    for y in range(height):
        for x in range(width):
            a = y * width + x
            pairs = []
            if x + 1 < width:
                pairs.append(a + 1)
            if y + 1 < height:
                pairs.append(a + width)
            for b in pairs:
                top, bottom = (a, b) if ground[a] + water[a] >= ground[b] + water[b] else (b, a)
                higher = ground[top] + water[top] - ground[bottom] - water[bottom]
                moved = min(water[top] // 4, higher // 8)
                after[top] -= moved
                after[bottom] += moved
    return after
