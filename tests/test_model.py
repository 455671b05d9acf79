"""Schemes drawn by lot (the same ones each time), held against the model of exact fractions."""

import math
import random
import unittest
from fractions import Fraction

from lines import DOUBLE, GREATEST, KINDS, OPEN, answered, block, build, fleet, records_of, run, tick, watchers
from lots import drawn_block, drawn_constant
from model import SIGNALS, Model, double_of, patterns_of, told

BLOCKS = 22


def drawn_scheme(lot):
    """Blocks as told, their constants' bits."""
    values = [drawn_constant(lot) for i in range(40)]
    rise = sorted({drawn_constant(lot) for i in range(30)})
    values += [x for value in rise for x in (value, drawn_constant(lot))]
    values += [0.0, 0.25, 1.0, 3.0]
    patterns = patterns_of(values)
    blocks = [[0, lot.choice(KINDS), 8 * i, 7 - i, 0, 0, lot.randrange(40), lot.randrange(40)] for i in range(3)]
    while len(blocks) < BLOCKS:
        numbers = drawn_block(lot, BLOCKS, len(patterns))
        if told(numbers, BLOCKS, patterns):
            blocks.append(numbers)
    return blocks, patterns


def near_constants(lot):
    """Bits of constants of middling size; from number 20 on such as make a curve's points."""
    values = [lot.choice((-1, 1)) * lot.uniform(0.1, 1) * 2.0 ** -lot.choice((0, 13, 14)) for i in range(20)]
    x = -3.0
    while len(values) < 80:
        x += lot.uniform(0.1, 1)
        values += [x, lot.uniform(-2, 2)]
    return patterns_of(values)


def drawn_records(lot, n):
    return [[lot.choice((0, 1, 255, lot.randrange(256))) for i in range(256)] for t in range(n)]


class DrawnTest(unittest.TestCase):

    def test_signals_and_records(self):
        for seed in range(150):
            lot = random.Random(seed)
            blocks, patterns = drawn_scheme(lot)
            came = drawn_records(lot, lot.randrange(1, 7))
            self.are_as_the_model_tells(blocks, patterns, came)

    def are_as_the_model_tells(self, blocks, patterns, came):
        model = Model(blocks, patterns)
        went = [model.tick(one) for one in came]
        wanted = [(i, float(model.signal[i])) for i in range(BLOCKS)]
        constants = [double_of(pattern) for pattern in patterns]
        scheme = blocks + watchers(BLOCKS, constants, wanted)
        answer = answered(OPEN, build(scheme, constants), run(0, came))
        self.assertEqual([len(scheme)], answer[1])
        sent = records_of(answer[2])
        wrong = [blocks[i] for i in range(BLOCKS) if sent[-1][255 - i] != 1]
        self.assertEqual([], wrong)
        self.assertEqual([one[:128] for one in went], [one[:128] for one in sent])

    def test_each_row_with_numbers_near_each_other(self):
        for what in range(1, 40):
            for seed in range(8):
                lot = random.Random(100 * what + seed)
                patterns = near_constants(lot)
                blocks = [[0, DOUBLE, 2 * i, 5, 0, 0, lot.randrange(20), lot.randrange(20)] for i in range(4)]
                while len(blocks) < BLOCKS:
                    numbers = drawn_block(lot, BLOCKS, len(patterns), what)
                    numbers[2:2 + len(SIGNALS.get(what, "a"))] = [
                        lot.randrange(len(blocks)) for letter in SIGNALS.get(what, "a")]
                    if told(numbers, BLOCKS, patterns):
                        blocks.append(numbers)
                self.are_as_the_model_tells(blocks, patterns, drawn_records(lot, 4))

    def test_alone_and_in_the_fleet(self):
        for seed in range(1000, 1020):
            lot = random.Random(seed)
            blocks, patterns = drawn_scheme(lot)
            craft = lot.randrange(2, 9)
            came = [drawn_records(lot, craft) for t in range(4)]
            answer = answered(OPEN, fleet(craft), build(blocks, patterns), *[tick(one) for one in came])
            went = [records_of(one) for one in answer[3:]]
            for i in range(craft):
                alone = answered(OPEN, build(blocks, patterns), run(0, [one[i] for one in came]))
                model = Model(blocks, patterns)
                with self.subTest(seed=seed, craft=i):
                    self.assertEqual(records_of(alone[2]), [one[i] for one in went])
                    self.assertEqual([model.tick(one[i]) for one in came], [one[i] for one in went])

    def test_which_blocks_are_as_told(self):
        lot = random.Random(7)
        counts = [0, 0]
        for turn in range(3000):
            patterns = patterns_of([drawn_constant(lot) for i in range(lot.choice((0, 3, 5, 8, 12)))])
            n = lot.randrange(1, 5)
            numbers = [lot.randrange(40), lot.choice(KINDS)] + [lot.choice((0, 1, 2, 3, 4, 8, -1)) for i in range(6)]
            if lot.randrange(10) == 0:
                numbers[lot.randrange(8)] = lot.choice((-1, 3, 40, 255, 256, 2147483647, -2147483648))
            blocks = [block(39, DOUBLE, a=0)] * n
            blocks[lot.randrange(n)] = numbers
            right = told(numbers, n, patterns)
            counts[right] += 1
            with self.subTest(numbers=numbers, n=n, constants=[double_of(x) for x in patterns]):
                self.assertEqual([n] if right else [-5], answered(OPEN, build(blocks, patterns))[1])
        self.assertGreater(min(counts), 300)

    def test_doubles_as_the_machine_reckons_them(self):
        lot = random.Random(11)
        for turn in range(40):
            values = [drawn_constant(lot) for i in range(2)]
            x, y = values
            wanted = [x + y, x - y, x * y, x / y if y else 0.0, math.sqrt(abs(x))]
            wanted = [max(-GREATEST[DOUBLE], min(GREATEST[DOUBLE], value)) for value in wanted]
            blocks = [block(1, DOUBLE, p=0), block(1, DOUBLE, p=1), block(13, DOUBLE, a=0)]
            blocks += [block(what, DOUBLE, a=0, b=1) for what in (2, 3, 4, 5)] + [block(6, DOUBLE, a=2)]
            scheme = blocks + watchers(8, values, [(3 + i, value) for i, value in enumerate(wanted)])
            answer = answered(OPEN, build(scheme, values), run(0, [[0] * 256]))
            self.assertEqual([1] * 5, records_of(answer[2])[0][:250:-1], (x, y))


class ModelTest(unittest.TestCase):

    def test_model_rounds_as_told(self):
        from model import rounded
        self.assertEqual(Fraction(0), rounded(0, Fraction(1, 2 ** 25)))
        self.assertEqual(Fraction(1, 2 ** 24), rounded(0, Fraction(1, 2 ** 25) + Fraction(1, 2 ** 999)))
        self.assertEqual(2048, rounded(0, Fraction(2049)))
        self.assertEqual(-65504, rounded(0, Fraction(-10 ** 400)))
        self.assertEqual(2 ** 24, rounded(1, Fraction(2 ** 24 + 1)))


if __name__ == "__main__":
    unittest.main()
