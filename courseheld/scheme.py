"""Schemes: whether blocks are as told, and what is kept of them."""

from courseheld.grains import from_double, is_kind, one, to_kind
from courseheld.wholes import is_how, is_width, size_of

MOST_BLOCKS = 96
RECORD_SIZE = 256
MOST_POINTS = 64

# Where a block's eight numbers stand.
WHAT = 0
KIND = 1
A = 2
B = 3
C = 4
P = 5
LETTERS = "abcpqr"

# By row of the table: how many of a, b, c (from a on) are numbers of blocks.
SOURCES = (
    0, 0, 2, 2, 2, 2, 1, 3, 3, 3, 3, 2, 2, 1, 1, 1, 1, 1, 1, 1,
    1, 1, 1, 2, 2, 2, 3, 2, 2, 1, 1, 1, 1, 1, 1, 1, 1, 2, 2, 1,
)

# By row: the letters that are numbers of constants. Rows without any aren't here, nor are the filter (30)
# and the curve (34), whose constants stand one behind another from p on.
CONSTANTS = {
    0: "qr",
    1: "p",
    15: "pq",
    16: "p",
    17: "p",
    18: "p",
    19: "pqr",
    20: "p",
    22: "pq",
    31: "pqr",
    33: "pq",
    37: "p",
}

SENSOR = 0
RELAY = 22
FILTER = 30
KEPT = 32
KALMAN = 33
CURVE = 34
TO_WHOLE = 35
RUDDER = 36


class Block:
    """A block as told: what it does, its kind, the blocks it takes from, its constants, its place."""

    def __init__(self, numbers, given):
        self.what = numbers[WHAT]
        self.kind = numbers[KIND]
        self.sources = sources_of(numbers)
        self.given = given
        letters = {}
        for letter, number in zip(CONSTANTS.get(self.what, ""), given):
            letters[letter] = number
        self.p = letters.get("p", 0)
        self.q = letters.get("q", 0)
        self.r = letters.get("r", 0)
        self.place = place_of(numbers)
        self.width = width_of(numbers)
        self.how = numbers[P]


def sources_of(numbers):
    """The numbers of the blocks that the block takes from."""
    return numbers[A:A + SOURCES[numbers[WHAT]]]


def place_of(numbers):
    """The byte's place that a sensor or a rudder names."""
    return numbers[A] if numbers[WHAT] == SENSOR else numbers[B]


def width_of(numbers):
    """The width that a sensor or a rudder names."""
    return numbers[B] if numbers[WHAT] == SENSOR else numbers[C]


def constants_of(numbers):
    """The numbers of the constants that the block names; a curve's points are already known to be as told."""
    what = numbers[WHAT]
    first = numbers[P]
    if what == FILTER:
        return list(range(first, first + 5))
    if what == CURVE:
        return list(range(first, first + 2 * numbers[B]))
    return [numbers[A + LETTERS.index(letter)] for letter in CONSTANTS.get(what, "")]


def all_below(numbers, end):
    """Whether all the numbers are from 0 on and below the end."""
    return all([0 <= number < end for number in numbers])


def place_as_told(place, width):
    """Whether a width is one, and the place one where a whole number of it may stand."""
    return is_width(width) and 0 <= place < RECORD_SIZE and place % size_of(width) == 0


def rest_as_told(numbers):
    """Whether what is neither a block's nor a constant's number is as the row tells."""
    what = numbers[WHAT]
    if what in (SENSOR, RUDDER) and not place_as_told(place_of(numbers), width_of(numbers)):
        return False
    if what in (TO_WHOLE, RUDDER):
        return is_how(numbers[P])
    if what == CURVE:
        return 1 <= numbers[B] <= MOST_POINTS
    return True


def rising(given):
    """Whether each x of a curve's points is below the next."""
    return all([given[i] < given[i + 2] for i in range(0, len(given) - 2, 2)])


def given_as_told(block):
    """Whether the constants, rounded to the block's kind, stand to each other as the row tells."""
    what = block.what
    if what in (15, RELAY):
        return block.p <= block.q
    if what in (16, 17, 37):
        return block.p >= 0
    if what == 18:
        return 0 <= block.p <= one()
    if what == 19:
        return block.q <= 0 <= block.r
    if what == KALMAN:
        return block.p >= 0 and block.q >= 0
    if what == CURVE:
        return rising(block.given)
    return True


def told_block(numbers, n, constants):
    """The block that eight numbers tell in a scheme of n blocks, None if it isn't as told."""
    if not 0 <= numbers[WHAT] < len(SOURCES) or not is_kind(numbers[KIND]):
        return None
    if not all_below(sources_of(numbers), n) or not rest_as_told(numbers):
        return None
    named = constants_of(numbers)
    if not all_below(named, len(constants)):
        return None
    block = Block(numbers, [to_kind(numbers[KIND], constants[i]) for i in named])
    if not given_as_told(block):
        return None
    return block


def told_scheme(n, numbers, doubles):
    """The n blocks of a scheme, None if one isn't as told or a constant isn't finite."""
    constants = [from_double(bits) for bits in doubles]
    if None in constants:
        return None
    blocks = []
    for i in range(n):
        block = told_block(numbers[8 * i:8 * i + 8], n, constants)
        if block is None:
            return None
        blocks.append(block)
    return blocks
