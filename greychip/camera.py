"""The calls on one chip, one behind another, and what they answer."""

from greychip.calls import set_dark, set_gains, set_hot, take
from greychip.calls import tell_bins, tell_colours, tell_grey, tell_row
from greychip.chip import Chip
from greychip.reader import Reader

OPENING = 1
DARK = 2
GAINS = 3
HOT = 4
TAKE = 5
ROW = 6
COLOURS = 7
GREY = 8

# For each call: how many whole numbers and how many rows stand behind its own number.
SHAPES = {
    1: (0, 0),
    2: (0, 1),
    3: (0, 1),
    4: (1, 0),
    5: (0, 1),
    6: (1, 0),
    7: (2, 0),
    8: (0, 0),
    9: (0, 0),
}

OPENED = 0
NO_CHIP = -7


def answer_of(chip, call, numbers, rows):
    """The answer of one call; chip is None where there is none."""
    if chip is None:
        return [NO_CHIP]
    if call == OPENING:
        return [OPENED]
    if call == DARK:
        return set_dark(chip, rows[0])
    if call == GAINS:
        return set_gains(chip, rows[0])
    if call == HOT:
        return set_hot(chip, numbers[0])
    if call == TAKE:
        return take(chip, rows[0])
    if call == ROW:
        return tell_row(chip, numbers[0])
    if call == COLOURS:
        return tell_colours(chip, numbers[0], numbers[1])
    if call == GREY:
        return tell_grey(chip)
    return tell_bins(chip)


def answers(calls):
    """For each call how many numbers are answered, then these."""
    told = []
    chip = None
    reader = Reader(calls)
    while reader.has_more():
        call = reader.next_number()
        shape = SHAPES[call]
        # A refused call's numbers are read, too: the next call stands behind them.
        numbers = reader.next_numbers(shape[0])
        rows = reader.next_rows(shape[1])
        if call == OPENING:
            chip = Chip()
        answer = answer_of(chip, call, numbers, rows)
        told.append(len(answer))
        told.extend(answer)
    return told
