"""The calls on one chip, one behind another, and what they answer."""

from greychip.calls import reorder, set_dark, set_gains, set_hot, take, write_over
from greychip.calls import tell_bins, tell_bytes, tell_colours, tell_edges, tell_grey, tell_packed
from greychip.calls import tell_parts, tell_row, tell_spread, tell_wholes
from greychip.chip import Chip
from greychip.reader import Reader

OPENING = 1
DARK = 2
GAINS = 3
HOT = 4
TAKE = 5
ROW = 6
COLOURS = 7
GREY = 8
BINS = 9
SPREAD = 10
EDGES = 11
ORDER = 12
BYTES = 14
WHOLES = 17

# For each call: how many whole numbers and how many rows stand behind its own number.
SHAPES = {
    1: (0, 0),
    2: (0, 1),
    3: (0, 1),
    4: (1, 0),
    5: (0, 1),
    6: (1, 0),
    7: (2, 0),
    8: (0, 0),
    9: (0, 0),
    10: (0, 0),
    11: (0, 0),
    12: (2, 0),
    13: (2, 2),
    14: (1, 0),
    15: (0, 0),
    16: (1, 0),
    17: (1, 1),
}

OPENED = 0
NO_CHIP = -7


def answer_without_numbers(chip, call):
    """The answer of a call that is its number alone."""
    if call == OPENING:
        return [OPENED]
    if call == GREY:
        return tell_grey(chip)
    if call == BINS:
        return tell_bins(chip)
    if call == SPREAD:
        return tell_spread(chip)
    if call == EDGES:
        return tell_edges(chip)
    return tell_packed(chip)


def answer_to_numbers(chip, call, numbers):
    """The answer of a call that has whole numbers, but no rows."""
    if call == HOT:
        return set_hot(chip, numbers[0])
    if call == ROW:
        return tell_row(chip, numbers[0])
    if call == COLOURS:
        return tell_colours(chip, numbers[0], numbers[1])
    if call == ORDER:
        return reorder(chip, numbers[0], numbers[1])
    if call == BYTES:
        return tell_bytes(chip, numbers[0])
    return tell_parts(chip, numbers[0])


def answer_to_rows(chip, call, numbers, rows):
    """The answer of a call on a chip that has rows."""
    if call == DARK:
        return set_dark(chip, rows[0])
    if call == GAINS:
        return set_gains(chip, rows[0])
    if call == TAKE:
        return take(chip, rows[0])
    return write_over(chip, numbers[0], numbers[1], rows[0], rows[1])


def answer_of(chip, call, numbers, rows):
    """The answer of one call; chip is None where there is none."""
    if call == WHOLES:
        # The one call but the opening that is answered ahead of a chip.
        return tell_wholes(numbers[0], rows[0])
    if chip is None:
        return [NO_CHIP]
    if len(rows) > 0:
        return answer_to_rows(chip, call, numbers, rows)
    if len(numbers) > 0:
        return answer_to_numbers(chip, call, numbers)
    return answer_without_numbers(chip, call)


def answers(calls):
    """For each call how many numbers are answered, then these."""
    told = []
    chip = None
    reader = Reader(calls)
    while reader.has_more():
        call = reader.next_number()
        shape = SHAPES[call]
        # A refused call's numbers are read, too: the next call stands behind them.
        numbers = reader.next_numbers(shape[0])
        rows = reader.next_rows(shape[1])
        if call == OPENING:
            chip = Chip()
        answer = answer_of(chip, call, numbers, rows)
        told.append(len(answer))
        told.extend(answer)
    return told
