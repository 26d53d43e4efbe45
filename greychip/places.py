"""The places of a frame, and what stands for a place beyond an edge."""

SIDE = 16
LAST = 15
PLACES = 256


def is_on_chip(k):
    """Whether k is an x or a y of the frame."""
    return 0 <= k <= LAST


def mirrored(k):
    """The x or y that stands for k: beyond an edge the one as far on this side of it."""
    if k < 0:
        return -k
    if k > LAST:
        return 2 * LAST - k
    return k


def count_at(counts, x, y):
    """The count at a place, which may lie beyond an edge."""
    return counts[SIDE * mirrored(y) + mirrored(x)]


def row_of(numbers, y):
    """The row y of a frame or a picture, as a list of its own."""
    return numbers[SIDE * y:SIDE * y + SIDE]
