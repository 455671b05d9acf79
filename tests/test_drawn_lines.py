"""Whole lines with calls of every sort, drawn by lot (the same ones each time), held against the model's store."""

import random
import unittest
from fractions import Fraction

from lines import DOUBLE, INFINITE, KINDS, LEAST, NO_NUMBER, OPEN, SIGN, answered, bits, build, fleet, put, record
from lines import reset, round_call, run, seen, signal, state, tick, whole_call
from lots import drawn_block, drawn_constant
from model import patterns_of, rounded, told
from model_store import ModelStore

WRONG = (-1, 2147483647, -2147483648)


def drawn_scheme(lot, most, what=None):
    """A few blocks as told, their constants' bits; now and then one block isn't as told."""
    n = lot.randrange(1, most + 1)
    values = [drawn_constant(lot) for i in range(12)]
    values += [x for value in sorted({drawn_constant(lot) for i in range(6)}) for x in (value, drawn_constant(lot))]
    values += [0.0, 0.25, 1.0, 3.0]
    patterns = patterns_of(values)
    blocks = []
    while len(blocks) < n:
        one = drawn_block(lot, n, len(patterns), what)
        if told(one, n, patterns) or lot.randrange(300) == 0:
            blocks.append(one)
    return blocks, patterns


def near_kind(lot, kind):
    """A number of the kind."""
    return float(rounded(kind, Fraction(drawn_constant(lot))))


def drawn_state(lot, blocks):
    """Signals, s and t that are as told, most of the time."""
    values = []
    for what, kind, *rest in blocks:
        three = [near_kind(lot, kind) for i in range(3)]
        if what == 22:
            three[0] = lot.choice((0.0, 1.0, -0.0))
        if what == 33:
            three[1] = abs(three[1])
        values.extend(map(bits, three))
    if lot.randrange(4) == 0:
        values[lot.randrange(len(values))] = lot.choice((
            INFINITE, NO_NUMBER, INFINITE + SIGN, SIGN, bits(-1.0), bits(0.5), bits(0.1), bits(1e300), bits(LEAST[2])))
    return values


def drawn_record(lot):
    return record((0, [lot.choice((0, 1, 255, lot.randrange(256))) for i in range(256)]))


class DrawnLine:
    """Draws calls that are apt to be answered: it keeps in mind the scheme and the fleet."""

    def __init__(self, lot, most=6, what=None):
        self.lot, self.most, self.what = lot, most, what
        self.blocks, self.patterns, self.craft = [], [], 1

    def n(self):
        """How many blocks there are, or something else."""
        near = (len(self.blocks) + self.lot.choice((-1, 1)), 0, 97, *WRONG)
        return self.lot.choice(near) if self.lot.randrange(8) == 0 else max(1, len(self.blocks))

    def one_craft(self):
        return self.lot.choice((self.craft, 64, *WRONG)) if self.lot.randrange(10) == 0 else (
            self.lot.randrange(self.craft))

    def one_block(self):
        return self.lot.choice((len(self.blocks), 95, 96, *WRONG)) if self.lot.randrange(8) == 0 else (
            self.lot.randrange(max(1, len(self.blocks))))

    def build(self):
        blocks, patterns = drawn_scheme(self.lot, self.most, self.what)
        if all(told(one, len(blocks), patterns) for one in blocks):
            self.blocks, self.patterns = blocks, patterns
        return build(blocks, patterns)

    def fleet(self):
        n = self.lot.choice((1, 2, 3, 3, 0, 65))
        self.craft = n if 1 <= n <= 64 else self.craft
        return fleet(n)

    def tick(self):
        n = self.craft + (self.lot.randrange(8) == 0)
        return tick([drawn_record(self.lot) for i in range(n)])

    def run(self):
        return run(self.one_craft(), [drawn_record(self.lot) for i in range(self.lot.randrange(1, 4))])

    def put(self):
        n = self.n()
        if n == len(self.blocks):
            return put(self.one_craft(), drawn_state(self.lot, self.blocks))
        values = [self.lot.choice((INFINITE, 0, bits(1.0))) for i in range(3 * n if 1 <= n <= 96 else 0)]
        return put(self.one_craft(), values, n)

    def round(self):
        return round_call(self.one_of(3), self.one_of(9), *[self.one_double() for i in range(3)])

    def whole(self):
        return whole_call(self.one_of(3), self.one_of(4), self.one_of(8), self.one_double())

    def one_of(self, end):
        return self.lot.choice((end, *WRONG)) if self.lot.randrange(20) == 0 else self.lot.randrange(end)

    def one_double(self):
        if self.lot.randrange(20) == 0:
            return self.lot.choice((INFINITE, NO_NUMBER, (1 << 64) - 1, INFINITE + SIGN))
        return bits(drawn_constant(self.lot))

    def call(self):
        """The next call."""
        sort = self.lot.choices(range(12), (1, 4, 3, 3, 12, 8, 12, 12, 10, 14, 6, 6))[0]
        if sort == 0:
            self.blocks, self.craft = [], 1
        return [lambda: OPEN, self.build, self.fleet, lambda: reset(self.one_craft()), self.tick, self.run,
                lambda: signal(self.one_craft(), self.one_block()), lambda: seen(self.one_craft(), self.one_block()),
                lambda: state(self.one_craft(), self.n()), self.put, self.round, self.whole][sort]()

    def calls(self):
        return [OPEN, self.build()] + [self.call() for i in range(self.lot.randrange(20, 40))]


class DrawnLinesTest(unittest.TestCase):

    def are_answered_as_the_model_tells(self, calls):
        """The answers, which are as the model's."""
        model = ModelStore()
        told_here = answered(*calls)
        for i, call in enumerate(calls):
            self.assertEqual(model.answer(call), told_here[i], (i, call[:12]))
        return told_here

    def test_lines(self):
        met = {}
        for seed in range(250):
            calls = DrawnLine(random.Random(seed)).calls()
            for call, answer in zip(calls, self.are_answered_as_the_model_tells(calls)):
                met.setdefault(call[0], set()).add(min(answer[0], 0))
        # Each call was answered, and refused in each way that it may be.
        self.assertEqual({0: {0}, 1: {0, -5}, 2: {0, -2}, 3: {0, -2, -3}, 4: {0, -2, -3}, 5: {0, -2, -3},
                          6: {0, -2, -3, -4}, 7: {0, -2, -3, -4}, 8: {0, -2, -3, -4}, 9: {0, -2, -3, -4, -5},
                          10: {0, -2, -5}, 11: {0, -2, -5}}, met)

    def test_lines_about_one_row(self):
        for what in range(40):
            for seed in range(4):
                self.are_answered_as_the_model_tells(DrawnLine(random.Random(1000 * what + seed), 4, what).calls())

    def test_steps(self):
        lot = random.Random(5)
        line = DrawnLine(lot)
        for kind in KINDS:
            for op in range(9):
                self.are_answered_as_the_model_tells(
                    [round_call(kind, op, *[line.one_double() for i in range(3)]) for turn in range(60)])
            for how in range(4):
                for width in range(8):
                    self.are_answered_as_the_model_tells(
                        [whole_call(kind, how, width, line.one_double()) for turn in range(20)])

    def test_doubles_of_any_bits(self):
        lot = random.Random(6)
        patterns = [lot.getrandbits(64) for i in range(400)]
        for first in range(0, 400, 100):
            some = patterns[first:first + 100]
            wanted = [[-5] if (one >> 52) % 2048 == 2047 else [0, one] for one in some]
            self.assertEqual(wanted, answered(*[round_call(DOUBLE, 0, one) for one in some]))


if __name__ == "__main__":
    unittest.main()
