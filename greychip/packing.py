"""Packed counts: two of them, of twelve bits each, in three bytes."""


def unpacked(packed):
    """The counts that the bytes hold."""
    counts = []
    for at in range(0, len(packed), 3):
        shared = packed[at + 1]
        counts.append(packed[at] + 256 * (shared % 16))
        counts.append(shared // 16 + 16 * packed[at + 2])
    return counts


def packed_counts(counts):
    """The bytes that hold the counts."""
    packed = []
    for at in range(0, len(counts), 2):
        first = counts[at]
        second = counts[at + 1]
        packed.append(first % 256)
        packed.append(first // 256 + 16 * (second % 16))
        packed.append(second // 16)
    return packed
