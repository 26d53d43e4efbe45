"""The calls on a chip that is there: each answers the list of the numbers that it tells."""

from greychip.counts import FULL, cleaned, mended
from greychip.glass import colours, grey_picture
from greychip.packing import unpacked
from greychip.places import SIDE, is_on_chip

DONE = 0
NOT_AS_TOLD = -2


def set_dark(chip, packed):
    """dark: the dark frame from now on."""
    chip.dark = unpacked(packed)
    return [DONE]


def set_gains(chip, factors):
    """gains: the gains from now on."""
    chip.gains = list(factors)
    return [DONE]


def set_hot(chip, n):
    """hot: the hot places from now on; a later dark frame doesn't change them."""
    if n < 0 or n > FULL:
        return [NOT_AS_TOLD]
    chip.hot = [count > n for count in chip.dark]
    return [chip.hot.count(True)]


def take(chip, packed):
    """take: the frame and its picture, and how many of the frame's counts are full."""
    clean = cleaned(unpacked(packed), chip.dark, chip.gains)
    chip.frame = mended(clean, chip.hot)
    chip.picture = grey_picture(chip.frame)
    return [chip.frame.count(FULL)]


def tell_row(chip, y):
    """row: one row of the frame."""
    if not is_on_chip(y):
        return [NOT_AS_TOLD]
    return [SIDE] + chip.frame[SIDE * y:SIDE * y + SIDE]


def tell_colours(chip, x, y):
    """colours: red, green and blue at a place of the frame."""
    if not is_on_chip(x) or not is_on_chip(y):
        return [NOT_AS_TOLD]
    return [DONE] + colours(chip.frame, x, y)


def tell_grey(chip):
    """grey: the picture."""
    return [DONE] + chip.picture


def square_sum(frame, at):
    """The sum of the two by two counts whose first one stands there."""
    return frame[at] + frame[at + 1] + frame[at + SIDE] + frame[at + SIDE + 1]


def tell_bins(chip):
    """bins: the sums of the frame's squares of two by two, row by row."""
    told = [DONE]
    for y in range(0, SIDE, 2):
        for x in range(0, SIDE, 2):
            told.append(square_sum(chip.frame, SIDE * y + x))
    return told
