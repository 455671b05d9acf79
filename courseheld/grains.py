"""Numbers of the three kinds, kept as whole numbers of grains, and what is reckoned with them.

A grain is the least double above zero, 1 / 2**1074. Every number of every kind is a whole number of
grains, so sums and comparisons are exact, and there is one zero only.
"""

GRAIN_BITS = 1074

# How many of a double's 64 bits stand below its exponent.
FRACTION_BITS = 52

# By kind: how many bits a number has, the lowest bit of the denormal numbers and that of the greatest.
DIGITS = (11, 24, 53)
LOWEST_BIT = (1050, 925, 0)
TOP_BIT = (1079, 1178, 2045)


def is_kind(kind):
    """Whether there's such a kind."""
    return 0 <= kind < len(DIGITS)


def one():
    """The grains of the number 1."""
    return 1 << GRAIN_BITS


def greatest(kind):
    """The greatest number of the kind."""
    return ((1 << DIGITS[kind]) - 1) << TOP_BIT[kind]


def nearest(kind, upper, lower):
    """The number of the kind next to upper / lower grains, of two the even one; lower is above 0."""
    size = abs(upper)
    bits = (size // lower).bit_length()
    low_bit = max(LOWEST_BIT[kind], bits - DIGITS[kind])
    step = lower << low_bit
    steps = size // step
    twice_left = 2 * (size - steps * step)
    if twice_left > step or (twice_left == step and steps % 2 == 1):
        steps += 1
    near = min(steps << low_bit, greatest(kind))
    if upper < 0:
        return -near
    return near


def to_kind(kind, x):
    """The number x rounded to the kind."""
    return nearest(kind, x, 1)


def from_whole(kind, whole):
    """A whole number rounded to the kind."""
    return to_kind(kind, whole << GRAIN_BITS)


def total(kind, x, y):
    """x + y."""
    return to_kind(kind, x + y)


def difference(kind, x, y):
    """x - y."""
    return to_kind(kind, x - y)


def fused(kind, x, y, z):
    """x y + z, rounded once."""
    return nearest(kind, x * y + (z << GRAIN_BITS), one())


def product(kind, x, y):
    """x y."""
    return fused(kind, x, y, 0)


def quotient(kind, x, y):
    """x / y, 0 where y is 0."""
    if y == 0:
        return 0
    upper = x << GRAIN_BITS
    if y < 0:
        return nearest(kind, -upper, -y)
    return nearest(kind, upper, y)


def whole_root(n):
    """The greatest whole number whose square isn't above n; n is above 0."""
    # From any start above the root each step comes down, until it is met.
    guess = 1 << ((n.bit_length() + 1) // 2)
    nearer = (guess + n // guess) // 2
    while nearer < guess:
        guess = nearer
        nearer = (guess + n // guess) // 2
    return guess


def root(kind, x):
    """The root of x, 0 where x is below 0."""
    if x <= 0:
        return 0
    # Half a grain stands for what the whole root leaves out. Where nothing is left out it changes nothing:
    # numbers lie many grains apart there, and no middle of two is the root of a number.
    return nearest(kind, 2 * whole_root(x << GRAIN_BITS) + 1, 2)


def held(x, low, high):
    """low if x is below it, high if x is above it, else x."""
    if x < low:
        return low
    if x > high:
        return high
    return x


def held_between(x, y, z):
    """x held from the lesser of y and z to the greater."""
    return held(x, min(y, z), max(y, z))


def from_double(bits):
    """The number that a double's 64 bits tell, None if it isn't finite."""
    exponent = (bits >> FRACTION_BITS) & 2047
    if exponent == 2047:
        return None
    size = bits & ((1 << FRACTION_BITS) - 1)
    if exponent > 0:
        size = (size + (1 << FRACTION_BITS)) << (exponent - 1)
    if bits >> 63 == 1:
        return -size
    return size


def to_double(x):
    """The 64 bits of the double that the number x is."""
    size = abs(x)
    sign = 1 << 63 if x < 0 else 0
    exponent = max(0, size.bit_length() - FRACTION_BITS)
    if exponent == 0:
        return sign + size
    # A normal number's highest bit isn't among the 52: it is told by an exponent above 0.
    return sign + (exponent << FRACTION_BITS) + (size >> (exponent - 1)) - (1 << FRACTION_BITS)
