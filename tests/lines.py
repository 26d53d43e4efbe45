"""What the tests share: how calls are written down, and how answers are read."""

from greychip.camera import answers

OPEN = [1]
GREY = [8]
BINS = [9]
SPREAD = [10]
EDGES = [11]
PACK = [15]

WRONG = [-1, 16, 17, -2147483648, 2147483647]


def pack(counts):
    """Counts as packed bytes, through one long number of 24 bits for each two."""
    packed = []
    for a, b in zip(counts[0::2], counts[1::2]):
        packed.extend((a | b << 12).to_bytes(3, "little"))
    return packed


def dark(counts):
    return [2, 384] + pack(counts)


def gains(factors):
    return [3, 256] + list(factors)


def hot(n):
    return [4, n]


def take(counts):
    return [5, 384] + pack(counts)


def row(y):
    return [6, y]


def colours(x, y):
    return [7, x, y]


def order(y, code):
    return [12, y, code]


def mask(y, h, m, b):
    return [13, y, h, len(m)] + list(m) + [len(b)] + list(b)


def byte_row(y):
    return [14, y]


def parts(y):
    return [16, y]


def wholes(how, *doubles):
    """Each double is given as (z, e)."""
    numbers = [number for double in doubles for number in double]
    return [17, how, len(numbers)] + numbers


def split(told):
    """The list that is given back, as one list for each call."""
    parts = []
    at = 0
    while at < len(told):
        many = told[at]
        part = told[at + 1:at + 1 + many]
        if many < 1 or len(part) != many:
            raise AssertionError(f"{many} numbers are told at {at}, but {len(part)} stand there")
        parts.append(part)
        at += 1 + many
    return parts


def say(*calls):
    """The calls' answers, one list each."""
    line = []
    for call in calls:
        line.extend(call)
    parts = split(answers(line))
    if len(parts) != len(calls):
        raise AssertionError(f"{len(calls)} calls, {len(parts)} answers")
    return parts


def last(*calls):
    """The last call's answer."""
    return say(*calls)[-1]


def frame_behind(*calls):
    """The frame's 256 counts, row by row, behind these calls."""
    told = say(*calls, *[row(y) for y in range(16)])[len(calls):]
    frame = []
    for part in told:
        if part[0] != 16 or len(part) != 17:
            raise AssertionError(f"not a row: {part}")
        frame.extend(part[1:])
    return frame


def picture_behind(*calls):
    """The picture's 256 bytes behind these calls."""
    told = last(*calls, GREY)
    if told[0] != 0 or len(told) != 257:
        raise AssertionError(f"not a picture: {told}")
    return told[1:]


def level(count):
    return [count] * 256


def spots(places, ground=0):
    """A frame of one count all over, but for those given as {(x, y): count}."""
    counts = level(ground)
    for (x, y), count in places.items():
        counts[16 * y + x] = count
    return counts


def noise(seed, below):
    """256 numbers below a bound, the same ones each time."""
    state = seed
    numbers = []
    for _ in range(256):
        state = (state * 1103515245 + 12345) % 2147483648
        numbers.append((state >> 8) % below)
    return numbers
