"""Counts and their neighbours: means, and how a frame is cleaned and mended."""

from greychip.places import PLACES, SIDE, count_at

FULL = 4095
PLAIN_GAIN = 32768


def mean(a, b):
    """The mean of two, a half rounded up."""
    return (a + b + 1) // 2


def across(counts, x, y, far):
    """The mean of the counts that many places to the left and to the right."""
    return mean(count_at(counts, x - far, y), count_at(counts, x + far, y))


def along(counts, x, y, far):
    """The mean of the counts that many places above and below."""
    return mean(count_at(counts, x, y - far), count_at(counts, x, y + far))


def corners(counts, x, y):
    """The mean of the means of the two slanting pairs of neighbours."""
    falling = mean(count_at(counts, x - 1, y - 1), count_at(counts, x + 1, y + 1))
    rising = mean(count_at(counts, x + 1, y - 1), count_at(counts, x - 1, y + 1))
    return mean(falling, rising)


def cross(counts, x, y, far):
    """The mean of across and along."""
    return mean(across(counts, x, y, far), along(counts, x, y, far))


def cleaned_count(count, dark, gain):
    """A count without its dark, held back or raised by its gain."""
    light = max(count - dark, 0)
    return min(light * gain // PLAIN_GAIN, FULL)


def cleaned(counts, dark, gains):
    """All counts of a frame, cleaned."""
    return [cleaned_count(counts[at], dark[at], gains[at]) for at in range(PLACES)]


def mended_count(clean, hot, at):
    """The count of one place; the like of a hot one, two places off, see the same colour."""
    if hot[at]:
        return cross(clean, at % SIDE, at // SIDE, 2)
    return clean[at]


def mended(clean, hot):
    """A cleaned frame with its hot places mended, each from counts as they were cleaned."""
    return [mended_count(clean, hot, at) for at in range(PLACES)]
