"""Calls in numbers on one board, and what is answered, in numbers."""

from landwater.land import Land

START = 0
WORK = 1
TURN = 2

# How many numbers a call has, its own number among them; wl_start is as long as its rows.
LENGTHS = {1: 1, 2: 1, 3: 4}

# The form that stands ahead of a number that is answered alone.
NUMBER_ALONE = 0


def answers(calls):
    """Carry out the calls on a new board; give for each how many numbers are answered, and these."""
    land = Land()
    told = []
    at = 0
    while at < len(calls):
        length = call_length(calls, at)
        told.extend(with_count(answer(land, calls[at:at + length])))
        at += length
    return told


def call_length(calls, at):
    """Tell how many numbers the call that begins there has."""
    if calls[at] == START:
        behind_ground = 4 + calls[at + 3]
        return behind_ground + 1 + calls[at + behind_ground]
    return LENGTHS[calls[at]]


def answer(land, call):
    """Carry out one call and give its answer, the form ahead."""
    if call[0] == START:
        return alone(start(land, call))
    if call[0] == WORK:
        return alone(land.wl_work())
    if call[0] == TURN:
        return alone(land.wl_turn())
    # It is wl_rain: a number that is no call's has no length, so it does not come this far.
    return alone(land.wl_rain(call[1], call[2], call[3]))


def start(land, call):
    """Carry out wl_start: its rows have their counts before them."""
    behind_ground = 4 + call[3]
    return land.wl_start(call[1], call[2], call[4:behind_ground], call[behind_ground + 1:])


def alone(number):
    """Put the form ahead of a number that is answered alone."""
    return [NUMBER_ALONE, number]


def with_count(numbers):
    """Put ahead how many numbers are answered."""
    return [len(numbers)] + numbers
