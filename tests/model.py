"""The document's words once more, over exact fractions: slow, and written apart from the program."""

import math
import struct
from fractions import Fraction

from lines import GREATEST, bits

TOP = [Fraction(x) for x in GREATEST]


def double_of(pattern):
    return struct.unpack("<d", struct.pack("<Q", pattern))[0]


def finite(pattern):
    return math.isfinite(double_of(pattern))


def bits_of(x):
    """The 64 bits of a fraction that is a double."""
    assert Fraction(float(x)) == x
    return bits(float(x))


def as_float(x):
    """The double next to a fraction, the greatest for what's past it."""
    if abs(x) >= TOP[2]:
        return GREATEST[2] if x > 0 else -GREATEST[2]
    return x.numerator / x.denominator


def rounded(kind, x):
    """The kind's number next to a fraction: sought among the neighbours of a first guess."""
    if kind == 2:
        return Fraction(as_float(x))
    if abs(x) >= TOP[kind]:
        return TOP[kind] if x > 0 else -TOP[kind]
    number, pattern = (("<e", "<H"), ("<f", "<I"))[kind]
    near = struct.unpack(pattern, struct.pack(number, as_float(abs(x))))[0]
    best = None
    for guess in (near - 1, near, near + 1):
        if guess < 0:
            continue
        value = struct.unpack(number, struct.pack(pattern, guess))[0]
        if math.isinf(value) or math.isnan(value):
            continue
        rank = (abs(Fraction(value) - abs(x)), guess % 2)
        if best is None or rank < best[0]:
            best = (rank, Fraction(value))
    return best[1] if x >= 0 else -best[1]


def root(kind, x):
    """The root, from the whole root of a number scaled so far that what's left out can't make a tie."""
    if x <= 0:
        return Fraction(0)
    scale = 1 << 2400
    whole = math.isqrt(x.numerator * scale * scale // x.denominator)
    exact = whole * whole * x.denominator == x.numerator * scale * scale
    return rounded(kind, Fraction(whole, scale) if exact else Fraction(2 * whole + 1, 2 * scale))


def divided(kind, x, y):
    return rounded(kind, x / y) if y else Fraction(0)


def held(x, low, high):
    return low if x < low else high if x > high else x


def between(x, y, z):
    return held(x, min(y, z), max(y, z))


def whole_of(how, x):
    if how == 0:
        return round(x)
    return (math.floor, math.ceil, math.trunc)[how - 1](x)


def width_told(width):
    """How many bytes, and whether there are signs."""
    return 1 << width % 4, width > 3


SIGNALS = {2: "ab", 3: "ab", 4: "ab", 5: "ab", 7: "abc", 8: "abc", 9: "abc", 10: "abc", 11: "ab", 12: "ab",
           23: "ab", 24: "ab", 25: "ab", 26: "abc", 27: "ab", 28: "ab", 37: "ab", 38: "ab", 0: "", 1: ""}
CONSTANTS = {0: "qr", 1: "p", 15: "pq", 16: "p", 17: "p", 18: "p", 19: "pqr", 20: "p", 22: "pq", 31: "pqr",
             33: "pq", 37: "p"}


def letters_of(numbers):
    return dict(zip("abcpqr", numbers[2:]))


def constants_named(what, given):
    if what == 30:
        return range(given["p"], given["p"] + 5)
    if what == 34:
        return range(given["p"], given["p"] + 2 * given["b"])
    return [given[letter] for letter in CONSTANTS.get(what, "")]


def told(numbers, n, patterns):
    """Whether eight numbers are a block as told in a scheme of n blocks with these constants."""
    what, kind = numbers[:2]
    given = letters_of(numbers)
    if what not in range(40) or kind not in range(3):
        return False
    if any(given[letter] not in range(n) for letter in SIGNALS.get(what, "a")):
        return False
    place, width = (given["a"], given["b"]) if what == 0 else (given["b"], given["c"])
    if what in (0, 36) and (width not in range(8) or place not in range(0, 256, width_told(width)[0])):
        return False
    if what in (35, 36) and given["p"] not in range(4):
        return False
    if what == 34 and given["b"] not in range(1, 65):
        return False
    named = constants_named(what, given)
    if any(i not in range(len(patterns)) for i in named):
        return False
    c = [rounded(kind, Fraction(double_of(patterns[i]))) for i in named]
    if what == 34:
        return all(x < y for x, y in zip(c[::2], c[2::2]))
    return {15: lambda: c[0] <= c[1], 22: lambda: c[0] <= c[1], 16: lambda: c[0] >= 0, 17: lambda: c[0] >= 0,
            18: lambda: 0 <= c[0] <= 1, 19: lambda: c[1] <= 0 <= c[2], 33: lambda: min(c) >= 0,
            37: lambda: c[0] >= 0}.get(what, lambda: True)()


class Model:
    """One craft."""

    def __init__(self, blocks, patterns):
        self.blocks = blocks
        self.doubles = [Fraction(double_of(pattern)) for pattern in patterns]
        self.signal = [Fraction(0)] * len(blocks)
        self.s = [Fraction(0)] * len(blocks)
        self.t = [Fraction(0)] * len(blocks)
        self.behind = []

    def tick(self, came):
        self.came, self.goes = came, [0] * 256
        for i, numbers in enumerate(self.blocks):
            self.signal[i] = self.step(i, numbers[0], numbers[1], letters_of(numbers))
        self.behind.append(list(self.signal))
        return self.goes

    def seen(self, i):
        """The block's least signal and its greatest, as bits."""
        signals = [one[i] for one in self.behind]
        return [bits_of(min(signals)), bits_of(max(signals))]

    def state(self):
        """Each block's signal, s and t, as bits."""
        return [bits_of(x) for i in range(len(self.blocks)) for x in (self.signal[i], self.s[i], self.t[i])]

    def put(self, state):
        """Whether these bits are as told; if so they're taken."""
        if not all(map(finite, state)):
            return False
        numbers = [Fraction(double_of(one)) for one in state]
        for i, (what, kind, *rest) in enumerate(self.blocks):
            if any(rounded(kind, x) != x for x in numbers[3 * i:3 * i + 3]):
                return False
            if what == 22 and numbers[3 * i] not in (0, 1) or what == 33 and numbers[3 * i + 1] < 0:
                return False
        self.signal, self.s, self.t = numbers[::3], numbers[1::3], numbers[2::3]
        self.behind = []
        return True

    def step(self, i, what, kind, given):
        def near(x):
            return rounded(kind, x)
        there = self.s if what == 32 else self.signal
        a, b, c = ([near(there[given[letter]]) for letter in SIGNALS.get(what, "a")] + [Fraction(0)] * 3)[:3]
        k = [near(self.doubles[j]) for j in constants_named(what, given)]
        old, s, t = self.signal[i], self.s[i], self.t[i]
        if what == 0:
            size, signs = width_told(given["b"])
            some = bytes(self.came[given["a"]:given["a"] + size])
            return near(near(Fraction(int.from_bytes(some, "little", signed=signs))) * k[0] + k[1])
        if what == 36:
            size, signs = width_told(given["c"])
            low = -(1 << 8 * size - 1) if signs else 0
            whole = held(whole_of(given["p"], a), low, low + (1 << 8 * size) - 1)
            self.goes[given["b"]:given["b"] + size] = list(whole.to_bytes(size, "little", signed=signs))
            return near(Fraction(whole))
        if what in (20, 21):
            self.s[i] = a
            return near(k[0] * near(a - s)) if what == 20 else s
        if what == 30:
            y = near(k[0] * a + s)
            self.s[i] = near(near(k[1] * a + t) - k[3] * y)
            self.t[i] = near(k[2] * a - near(k[4] * y))
            return y
        if what == 31:
            m = near(s * k[0] + old)
            error = near(a - m)
            self.s[i] = near(k[2] * error + s)
            return near(k[1] * error + m)
        if what == 33:
            v = near(s + k[0])
            g = divided(kind, v, near(v + k[1]))
            self.s[i] = held(near(v - g * v), Fraction(0), v)
            return between(near(g * near(a - old) + old), old, a)
        if what == 34:
            return self.curve(kind, a, k)
        return Fraction(self.simple(what, kind, near, a, b, c, k, old, given["p"]))

    def curve(self, kind, a, k):
        xs, ys = k[::2], k[1::2]
        if a <= xs[0] or a >= xs[-1]:
            return ys[0] if a <= xs[0] else ys[-1]
        if a in xs:
            return ys[xs.index(a)]
        i = max(j for j, x in enumerate(xs) if x < a)
        share = divided(kind, rounded(kind, a - xs[i]), rounded(kind, xs[i + 1] - xs[i]))
        rise = rounded(kind, ys[i + 1] - ys[i])
        return between(rounded(kind, share * rise + ys[i]), ys[i], ys[i + 1])

    def simple(self, what, kind, near, a, b, c, k, old, how):
        return {
            1: lambda: k[0], 2: lambda: near(a + b), 3: lambda: near(a - b), 4: lambda: near(a * b),
            5: lambda: divided(kind, a, b), 6: lambda: root(kind, a), 7: lambda: near(a * b + c),
            8: lambda: near(a * b - c), 9: lambda: near(c - a * b), 10: lambda: near(-(a * b) - c),
            11: lambda: min(a, b), 12: lambda: max(a, b), 13: lambda: abs(a), 14: lambda: -a,
            15: lambda: held(a, k[0], k[1]),
            16: lambda: near(a - k[0]) if a > k[0] else near(a + k[0]) if a < -k[0] else 0,
            17: lambda: held(a, near(old - k[0]), near(old + k[0])),
            18: lambda: between(near(k[0] * near(a - old) + old), old, a),
            19: lambda: held(near(k[0] * a + old), k[1], k[2]),
            22: lambda: 1 if a > k[1] else 0 if a < k[0] else old,
            23: lambda: int(a < b), 24: lambda: int(a <= b), 25: lambda: int(a == b), 26: lambda: b if a else c,
            27: lambda: int(bool(a and b)), 28: lambda: int(bool(a or b)), 29: lambda: int(not a), 32: lambda: a,
            35: lambda: near(Fraction(whole_of(how, a))),
            37: lambda: 0 if b else min(k[0], near(old + 1)) if a else old,
            38: lambda: a if b else old, 39: lambda: (a > 0) - (a < 0),
        }[what]()


def patterns_of(values):
    return [bits(x) for x in values]
