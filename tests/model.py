"""A second way to reckon what a chip tells: on a frame laid out with two places more at each edge."""

from math import floor, trunc
from fractions import Fraction


def widened(counts):
    """{(x, y): count} for x and y from -2 to 17, the places beyond an edge written out."""
    order = [2, 1] + list(range(16)) + [14, 13]
    wide = {}
    for y, inner_y in zip(range(-2, 18), order):
        for x, inner_x in zip(range(-2, 18), order):
            wide[x, y] = counts[16 * inner_y + inner_x]
    return wide


def mean(a, b):
    return floor(Fraction(a + b + 1, 2))


def of_four(wide, first, second):
    return mean(mean(wide[first[0]], wide[first[1]]), mean(wide[second[0]], wide[second[1]]))


def frame(counts, dark, factors, threshold_dark, n):
    """The frame that a take leaves; the hot places are where threshold_dark is above n."""
    clean = []
    for count, off, factor in zip(counts, dark, factors):
        light = 0 if off > count else count - off
        clean.append(min(4095, floor(Fraction(light * factor, 32768))))
    wide = widened(clean)
    mended = []
    for y in range(16):
        for x in range(16):
            if n is not None and threshold_dark[16 * y + x] > n:
                mended.append(of_four(wide, [(x - 2, y), (x + 2, y)], [(x, y - 2), (x, y + 2)]))
            else:
                mended.append(clean[16 * y + x])
    return mended


def colours(counts, x, y):
    wide = widened(counts)
    across = mean(wide[x - 1, y], wide[x + 1, y])
    along = mean(wide[x, y - 1], wide[x, y + 1])
    corners = of_four(wide, [(x - 1, y - 1), (x + 1, y + 1)], [(x + 1, y - 1), (x - 1, y + 1)])
    seen = {(0, 0): "red", (1, 1): "blue"}.get((x % 2, y % 2), "green")
    if seen == "red":
        return [wide[x, y], mean(across, along), corners]
    if seen == "blue":
        return [corners, mean(across, along), wide[x, y]]
    if y % 2 == 0:
        return [across, wide[x, y], along]
    return [along, wide[x, y], across]


def picture(counts):
    bytes_told = []
    for y in range(16):
        for x in range(16):
            red, green, blue = colours(counts, x, y)
            bytes_told.append(min(255, floor(Fraction(77 * red + 150 * green + 29 * blue + 2048, 4096))))
    return bytes_told


def bins(counts):
    sums = [0] * 64
    for y in range(16):
        for x in range(16):
            sums[8 * (y // 2) + x // 2] += counts[16 * y + x]
    return sums


def spread(counts):
    return [sum(256 * k <= count <= 256 * k + 255 for count in counts) for k in range(16)]


def edges(picture_bytes):
    far = 0
    for at in range(256):
        if at % 16 != 15:
            far += max(picture_bytes[at:at + 2]) - min(picture_bytes[at:at + 2])
    return far


def ordered(counts, y, code):
    """The frame behind an order of row y; code is read as four digits in base four, written lowest last."""
    digits = [int(digit) for digit in f"{code >> 6 & 3}{code >> 4 & 3}{code >> 2 & 3}{code & 3}"]
    after = list(counts)
    for start in range(16 * y, 16 * y + 16, 4):
        four = counts[start:start + 4]
        after[start:start + 4] = [four[digit] for digit in reversed(digits)]
    return after


def masked(picture_bytes, y, h, m, b):
    after = list(picture_bytes)
    start = 16 * y + 8 * h
    after[start:start + 8] = [new if mark >> 7 else old for old, mark, new in zip(after[start:start + 8], m, b)]
    return after


def single(count):
    part = Fraction(count, 4096)
    return [part.numerator, 1 - part.denominator.bit_length()] if count else [0, 0]


def is_handed_in(z, e):
    size = abs(z) * Fraction(2) ** e
    return size == 0 or Fraction(1, 2 ** 60) <= size <= 2 ** 20


def whole(z, e, how):
    exact = z * Fraction(2) ** (e + 12)
    made = trunc(exact) if how else round(exact)
    return sorted([-32768, made, 32767])[1]
