"""Whole numbers: made of numbers, held to a width, read from a record and put into one."""

from courseheld.grains import GRAIN_BITS, held


def is_how(how):
    """Whether there's such a way to a whole number."""
    return 0 <= how <= 3


def is_width(width):
    """Whether there's such a width."""
    return 0 <= width <= 7


def to_whole(how, x):
    """The number x to a whole number: how 0 to the nearest, 1 down, 2 up, 3 towards 0."""
    below = x >> GRAIN_BITS
    left = x - (below << GRAIN_BITS)
    if left == 0 or how == 1:
        return below
    if how == 2:
        return below + 1
    if how == 3:
        return below + 1 if x < 0 else below
    half = 1 << (GRAIN_BITS - 1)
    if left > half or (left == half and below % 2 == 1):
        return below + 1
    return below


def size_of(width):
    """How many bytes a whole number of the width has."""
    return 1 << (width % 4)


def has_sign(width):
    """Whether whole numbers of the width have signs."""
    return width >= 4


def held_to_width(width, whole):
    """The whole number held from the least to the greatest one of the width."""
    count = 1 << (8 * size_of(width))
    if has_sign(width):
        return held(whole, -(count // 2), count // 2 - 1)
    return held(whole, 0, count - 1)


def read_whole(record, place, width):
    """The whole number of the width at a byte's place in a record, the lowest byte first."""
    size = size_of(width)
    whole = 0
    for i in range(size):
        whole += record[place + i] << (8 * i)
    if has_sign(width) and record[place + size - 1] >= 128:
        return whole - (1 << (8 * size))
    return whole


def put_whole(record, place, width, whole):
    """Put a whole number of the width into a record at a byte's place, the lowest byte first."""
    for i in range(size_of(width)):
        record[place + i] = (whole >> (8 * i)) & 255
