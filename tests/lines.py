"""What the tests share: doubles, calls, answers taken apart, and a bench that asks what signals are."""

import struct
import unittest

from courseheld.helm import answers

HALF, SINGLE, DOUBLE = 0, 1, 2
KINDS = (HALF, SINGLE, DOUBLE)
GREATEST = (65504.0, float.fromhex("0x1.fffffep+127"), float.fromhex("0x1.fffffffffffffp+1023"))
LEAST = (2.0 ** -24, 2.0 ** -149, 2.0 ** -1074)
# The distance from 1 to the next number of the kind.
NEXT = (2.0 ** -10, 2.0 ** -23, 2.0 ** -52)

INFINITE = 0x7FF << 52
NO_NUMBER = (0x7FF << 52) + 1
SIGN = 1 << 63
NOT_FINITE = (INFINITE, INFINITE + SIGN, NO_NUMBER, NO_NUMBER + SIGN, (1 << 64) - 1, SIGN - 1, 0x7FF8 << 48)
BELOW_RANGE = -2147483648
ABOVE_RANGE = 2147483647

OPEN = [0]
# What no row may look at, where it doesn't name it.
JUNK = {"a": ABOVE_RANGE, "b": BELOW_RANGE, "c": -1, "p": ABOVE_RANGE, "q": BELOW_RANGE, "r": -1}


def bits(x):
    """The 64 bits of a double."""
    return struct.unpack("<Q", struct.pack("<d", x))[0]


def pattern(x):
    """The 64 bits of a float; a whole number stands for bits as they are."""
    return x if isinstance(x, int) else bits(x)


def patterns(*numbers):
    return [pattern(x) for x in numbers]


def block(what, kind, **given):
    """A block's eight numbers, with junk in whatever isn't given."""
    return [what, kind] + [given.get(letter, JUNK[letter]) for letter in "abcpqr"]


def build(blocks, constants=(), n=None):
    """The call build; constants are floats, or whole numbers for bits as they stand."""
    flat = [number for one in blocks for number in one]
    doubles = patterns(*constants)
    return [1, len(blocks) if n is None else n, len(flat), *flat, len(doubles), *doubles]


def every_row(kind):
    """A block of each row in the kind, behind sensors; its constants' bits."""
    constants = [0.37, 0.0, -0.5, 0.5, 1.0, 3.7, 0.9, -0.3, 0.2, -2.0, -1.0, 0.5, 4.0, 2.0, 0.3]
    blocks = [block(0, kind, a=0, b=4, q=0, r=1), block(0, kind, a=1, b=4, q=0, r=1)]
    own = {1: {"p": 5}, 15: {"p": 2, "q": 3}, 22: {"p": 2, "q": 3}, 18: {"p": 0}, 19: {"p": 0, "q": 2, "r": 5},
           31: {"p": 0, "q": 14, "r": 8}, 33: {"p": 0, "q": 3}, 30: {"p": 4}, 34: {"b": 3, "p": 9}, 35: {"p": 0},
           36: {"b": 8, "c": 5, "p": 1}, 0: {"a": 2, "b": 5, "q": 0, "r": 1}, 32: {"a": 22}}
    for what in range(40):
        blocks.append(block(what, kind, **{"a": 0, "b": 1, "c": 2, "p": 0, "q": 3, "r": 4, **own.get(what, {})}))
    return blocks, [bits(x) for x in constants]


def fleet(n):
    return [2, n]


def reset(craft):
    return [3, craft]


def record(*parts):
    """A record of 256 bytes, from (place, bytes) pairs."""
    whole = [0] * 256
    for place, some in parts:
        whole[place:place + len(some)] = list(some)
    return whole


def tick(records, n=None):
    flat = [byte for one in records for byte in one]
    return [4, len(records) if n is None else n, len(flat), *flat]


def run(craft, records, n=None):
    flat = [byte for one in records for byte in one]
    return [5, craft, len(records) if n is None else n, len(flat), *flat]


def signal(craft, number):
    return [6, craft, number]


def seen(craft, number):
    return [7, craft, number]


def state(craft, n):
    return [8, craft, n]


def put(craft, values, n=None):
    """The call put; values are signal, s, t of each block, floats or bits as they stand."""
    return [9, craft, len(values) // 3 if n is None else n, len(values), *patterns(*values)]


def round_call(kind, op, x=0.0, y=0.0, z=0.0):
    return [10, kind, op, *patterns(x, y, z)]


def whole_call(kind, how, width, x):
    return [11, kind, how, width, pattern(x)]


def answered(*calls):
    """What each of the calls answers, one list a call."""
    told = answers([number for call in calls for number in call])
    apart = []
    at = 0
    while at < len(told):
        apart.append(told[at + 1:at + 1 + told[at]])
        at += 1 + told[at]
    assert at == len(told) and len(apart) == len(calls)
    return apart


def records_of(answer):
    """The records in the answer of a tick or a run, whose n and length are looked at too."""
    n = answer[0]
    assert n > 0 and len(answer) == 1 + 256 * n
    return [answer[1 + 256 * i:257 + 256 * i] for i in range(n)]


def watchers(first, constants, wanted):
    """Blocks from number `first` on, each three of which put 1 out at byte 255, 254 .. if a signal is as wanted.

    wanted holds pairs of a block's number and a float; the constants asked for are put behind `constants`.
    """
    blocks = []
    for i, (source, value) in enumerate(wanted):
        at = first + 3 * i
        constants.append(float(value))
        blocks.append(block(1, DOUBLE, p=len(constants) - 1))
        blocks.append(block(25, DOUBLE, a=source, b=at))
        blocks.append(block(36, DOUBLE, a=at + 1, b=255 - i, c=0, p=0))
    return blocks


class Bench(unittest.TestCase):
    """Asks for signals through the calls alone: later blocks compare them with what's wanted.

    Block 0 is a sensor that tells the tick's number; blocks 1, 2 .. are the inputs, doubles all of them, each
    told as a list with a value for each tick, or as one value for all ticks; then come the blocks asked about.
    """

    def signals_are(self, kind, what, given, inputs, constants, wanted):
        """One block of the row, behind its inputs, has the wanted signals tick by tick."""
        self.blocks_are([block(what, kind, **given)], inputs, constants, [(0, wanted)])

    def blocks_are(self, blocks, inputs, constants, wanted, came=()):
        """Of the blocks behind the inputs, those named in wanted (pairs of number and list) have these signals."""
        self.assertEqual([], self.misses(blocks, inputs, constants, wanted, came))

    def misses(self, blocks, inputs, constants, wanted, came=()):
        """Where the signals aren't as wanted: pairs of a block's number and a tick.

        came holds a record for each tick, where blocks read more than the inputs; byte 0 is the tick's number.
        """
        ticks = len(wanted[0][1])
        constants = [*map(float, constants), 1.0, 0.0]
        scheme = [block(0, DOUBLE, a=0, b=0, q=len(constants) - 2, r=len(constants) - 1)]
        for source in inputs:
            scheme.append(input_block(source, ticks, constants))
        first = len(scheme)
        scheme.extend(blocks)
        asked = [(i, t, value) for i, values in wanted for t, value in enumerate(values)]
        scheme.extend(watchers(len(scheme), constants, [(first + i, value) for i, t, value in asked]))
        records = [[t] + (list(came[t][1:]) if came else [0] * 255) for t in range(ticks)]
        told = answered(OPEN, build(scheme, constants), run(0, records))
        self.assertEqual([len(scheme)], told[1])
        went = records_of(told[2])
        return [(i, t) for place, (i, t, value) in enumerate(asked) if went[t][255 - place] != 1]


def input_block(source, ticks, constants):
    """A block that has a value for each tick, or one value for all; its constants are put behind `constants`."""
    first = len(constants)
    if not isinstance(source, list):
        constants.append(float(source))
        return block(1, DOUBLE, p=first)
    assert len(source) == ticks
    for t, value in enumerate(source):
        constants.extend((float(t), float(value)))
    return block(34, DOUBLE, a=0, b=ticks, p=first)
