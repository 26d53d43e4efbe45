"""The colours of glass before the places, and the grey that is made of them."""

from greychip.counts import across, along, corners, cross
from greychip.places import PLACES, SIDE, count_at

WHITE = 255


def colours(frame, x, y):
    """Red, green and blue at a place."""
    own = count_at(frame, x, y)
    if x % 2 == 0 and y % 2 == 0:
        return [own, cross(frame, x, y, 1), corners(frame, x, y)]
    if x % 2 == 1 and y % 2 == 1:
        return [corners(frame, x, y), cross(frame, x, y, 1), own]
    if x % 2 == 1:
        return [across(frame, x, y, 1), own, along(frame, x, y, 1)]
    return [along(frame, x, y, 1), own, across(frame, x, y, 1)]


def grey(shades):
    """The grey byte of red, green and blue."""
    weighed = 77 * shades[0] + 150 * shades[1] + 29 * shades[2]
    return min((weighed + 2048) // 4096, WHITE)


def grey_picture(frame):
    """The grey of all places of a frame."""
    return [grey(colours(frame, at % SIDE, at // SIDE)) for at in range(PLACES)]
