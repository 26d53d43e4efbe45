"""What each call does, wholes without a chip: each answers the list of the numbers that it tells."""

from greychip.counts import FULL, cleaned, mended
from greychip.glass import colours, grey_picture
from greychip.packing import packed_counts, unpacked
from greychip.places import SIDE, is_on_chip, row_of
from greychip.scaled import CUT_OFF, NEAREST, are_doubles_as_told, single_of, whole_of

HALF = 8
GROUP = 4
BYTE_MOST = 255
MARKED = 128
SHELVES = 16
SHELF_WIDTH = 256

DONE = 0
NOT_AS_TOLD = -2


def set_dark(chip, packed):
    """dark: the dark frame from now on."""
    chip.dark = unpacked(packed)
    return [DONE]


def set_gains(chip, factors):
    """gains: the gains from now on."""
    chip.gains = list(factors)
    return [DONE]


def set_hot(chip, n):
    """hot: the hot places from now on; a later dark frame doesn't change them."""
    if n < 0 or n > FULL:
        return [NOT_AS_TOLD]
    chip.hot = [count > n for count in chip.dark]
    return [chip.hot.count(True)]


def take(chip, packed):
    """take: the frame and its picture, and how many of the frame's counts are full."""
    clean = cleaned(unpacked(packed), chip.dark, chip.gains)
    chip.frame = mended(clean, chip.hot)
    chip.picture = grey_picture(chip.frame)
    return [chip.frame.count(FULL)]


def tell_row(chip, y):
    """row: one row of the frame."""
    if not is_on_chip(y):
        return [NOT_AS_TOLD]
    return [SIDE] + row_of(chip.frame, y)


def tell_colours(chip, x, y):
    """colours: red, green and blue at a place of the frame."""
    if not is_on_chip(x) or not is_on_chip(y):
        return [NOT_AS_TOLD]
    return [DONE] + colours(chip.frame, x, y)


def tell_grey(chip):
    """grey: the picture."""
    return [DONE] + chip.picture


def square_sum(frame, at):
    """The sum of the two by two counts whose first one stands there."""
    return frame[at] + frame[at + 1] + frame[at + SIDE] + frame[at + SIDE + 1]


def tell_bins(chip):
    """bins: the sums of the frame's squares of two by two, row by row."""
    told = [DONE]
    for y in range(0, SIDE, 2):
        for x in range(0, SIDE, 2):
            told.append(square_sum(chip.frame, SIDE * y + x))
    return told


def tell_spread(chip):
    """spread: how many of the frame's counts lie on each shelf, from the lowest on."""
    many = [0] * SHELVES
    for count in chip.frame:
        shelf = count // SHELF_WIDTH
        many[shelf] = many[shelf] + 1
    return [DONE] + many


def row_edges(row):
    """How far the neighbours in one row are apart, together."""
    return sum([abs(row[x] - row[x - 1]) for x in range(1, len(row))])


def tell_edges(chip):
    """edges: how far the neighbours in the picture's rows are apart, together."""
    return [sum([row_edges(row_of(chip.picture, y)) for y in range(SIDE)])]


def picks_of(code):
    """Which one of four comes first, second, third and fourth: two bits each, the lowest first."""
    picks = []
    rest = code
    for k in range(GROUP):
        picks.append(rest % GROUP)
        rest = rest // GROUP
    return picks


def reorder(chip, y, code):
    """order: each four counts of one row of the frame in another order."""
    if not is_on_chip(y) or code < 0 or code > BYTE_MOST:
        return [NOT_AS_TOLD]
    picks = picks_of(code)
    before = row_of(chip.frame, y)
    for x in range(SIDE):
        chip.frame[SIDE * y + x] = before[x - x % GROUP + picks[x % GROUP]]
    return [DONE]


def write_over(chip, y, h, m, b):
    """mask: bytes written over half a row of the picture, where they are marked, and how many."""
    if not is_on_chip(y) or h < 0 or h > 1:
        return [NOT_AS_TOLD]
    marked = [k for k in range(HALF) if m[k] >= MARKED]
    for k in marked:
        chip.picture[SIDE * y + HALF * h + k] = b[k]
    return [len(marked)]


def tell_bytes(chip, y):
    """bytes: one row of the picture."""
    if not is_on_chip(y):
        return [NOT_AS_TOLD]
    return [SIDE] + row_of(chip.picture, y)


def tell_packed(chip):
    """pack: the frame, packed as a take would have it."""
    return [DONE] + packed_counts(chip.frame)


def tell_parts(chip, y):
    """parts: one row of the frame in 4096ths, as singles."""
    if not is_on_chip(y):
        return [NOT_AS_TOLD]
    told = [SIDE]
    for count in row_of(chip.frame, y):
        told.extend(single_of(count))
    return told


def tell_wholes(how, doubles):
    """wholes: each double times 4096, made whole."""
    if how not in (NEAREST, CUT_OFF) or not are_doubles_as_told(doubles):
        return [NOT_AS_TOLD]
    wholes = [whole_of(doubles[at], doubles[at + 1], how) for at in range(0, len(doubles), 2)]
    return [len(wholes)] + wholes
