"""Calls in numbers on one board, and what is answered, in numbers."""

from landwater.land import NOT_ALLOWED, Land

START = 0
WORK = 1
TURN = 2
RAIN = 3
CELL = 4
HIGHEST = 5

# How many numbers a call has, its own number among them; wl_start is as long as its rows.
LENGTHS = {1: 1, 2: 1, 3: 4, 4: 3, 5: 1, 6: 1}

# The forms that stand ahead of what is answered.
NUMBER_ALONE = 0
COUNTED = 1


def answers(calls):
    """Carry out the calls on a new board; give for each how many numbers are answered, and these."""
    land = Land()
    told = []
    at = 0
    while at < len(calls):
        length = call_length(calls, at)
        told.extend(with_count(answer(land, calls[at:at + length])))
        at += length
    return told


def call_length(calls, at):
    """Tell how many numbers the call that begins there has."""
    if calls[at] == START:
        behind_ground = 4 + calls[at + 3]
        return behind_ground + 1 + calls[at + behind_ground]
    return LENGTHS[calls[at]]


def answer(land, call):
    """Carry out one call and give its answer, the form ahead."""
    if call[0] == START:
        return alone(start(land, call))
    if call[0] == WORK:
        return alone(land.wl_work())
    if call[0] == TURN:
        return alone(land.wl_turn())
    if call[0] == RAIN:
        return alone(land.wl_rain(call[1], call[2], call[3]))
    if call[0] == CELL:
        return cell(land, call)
    if call[0] == HIGHEST:
        return counted([land.wl_highest()])
    # It is wl_still: a number that is no call's has no length, so it does not come this far.
    return alone(land.wl_still())


def start(land, call):
    """Carry out wl_start: its rows have their counts before them."""
    behind_ground = 4 + call[3]
    return land.wl_start(call[1], call[2], call[4:behind_ground], call[behind_ground + 1:])


def cell(land, call):
    """Carry out wl_cell: a refusal has another form than what is answered else."""
    told = land.wl_cell(call[1], call[2])
    if told == NOT_ALLOWED:
        return alone(told)
    return counted(told)


def alone(number):
    """Put the form ahead of a number that is answered alone."""
    return [NUMBER_ALONE, number]


def counted(numbers):
    """Put the form and how many numbers there are ahead of them."""
    return [COUNTED] + with_count(numbers)


def with_count(numbers):
    """Put ahead of numbers how many they are."""
    return [len(numbers)] + numbers
