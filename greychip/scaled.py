"""Numbers z 2^e, as a z and an e: counts told as singles, and doubles made whole."""

PARTS_EXPONENT = 12

LARGEST_Z = 9007199254740992
LARGEST_E = 600
LOWEST_POWER = -60
HIGHEST_POWER = 20

MOST_DOUBLES = 64

NEAREST = 0
CUT_OFF = 1

LEAST_WHOLE = -32768
GREATEST_WHOLE = 32767


def power_of_two(k):
    """1 doubled k times."""
    power = 1
    for step in range(k):
        power = power * 2
    return power


def single_of(count):
    """A count in 4096ths, as z and e with z odd; 0 is 0 0."""
    if count == 0:
        return [0, 0]
    z = count
    e = -PARTS_EXPONENT
    while z % 2 == 0:
        z = z // 2
        e = e + 1
    return [z, e]


def has_size_as_told(z, e):
    """Whether z 2^e, not 0, is of a size from 2^-60 to 2^20."""
    bits = abs(z).bit_length()
    # The size is at least this power of two and below the next one.
    power = bits - 1 + e
    if power == HIGHEST_POWER:
        return abs(z) == power_of_two(bits - 1)
    return LOWEST_POWER <= power < HIGHEST_POWER


def is_double_as_told(z, e):
    """Whether z 2^e may be handed in."""
    if abs(z) > LARGEST_Z or abs(e) > LARGEST_E:
        return False
    return z == 0 or has_size_as_told(z, e)


def are_doubles_as_told(doubles):
    """Whether the list is made of a z and an e for each double, not too many, each as told."""
    if len(doubles) % 2 == 1 or len(doubles) > 2 * MOST_DOUBLES:
        return False
    return all([is_double_as_told(doubles[at], doubles[at + 1]) for at in range(0, len(doubles), 2)])


def rounded(over, under, how):
    """A quotient of two numbers, neither below 0, made whole."""
    whole = over // under
    twice_rest = 2 * (over % under)
    if how == CUT_OFF or twice_rest < under:
        return whole
    if twice_rest == under and whole % 2 == 0:
        return whole
    return whole + 1


def whole_size(size, e, how):
    """size 2^e times 4096, made whole; both ways of it are the same above and below 0."""
    power = e + PARTS_EXPONENT
    if power >= 0:
        return size * power_of_two(power)
    return rounded(size, power_of_two(-power), how)


def whole_of(z, e, how):
    """A double times 4096, made whole and held within sixteen bits."""
    if z == 0:
        # Its e says nothing of its size and may be large.
        return 0
    whole = whole_size(abs(z), e, how)
    if z < 0:
        whole = -whole
    return max(LEAST_WHOLE, min(GREATEST_WHOLE, whole))
