"""round: each op in each kind, its rounding, its zeros, its refusals."""

import math
import unittest

from lines import ABOVE_RANGE, BELOW_RANGE, DOUBLE, GREATEST, HALF, INFINITE, KINDS, LEAST, NEXT, NOT_FINITE
from lines import NO_NUMBER, OPEN, SINGLE, answered, bits, block, build, record, round_call, run, signal

ADD, SUBTRACT, MULTIPLY, DIVIDE, ROOT, MULTIPLY_ADD, MULTIPLY_SUBTRACT, SUBTRACT_PRODUCT, NEGATE = range(9)


class RoundTest(unittest.TestCase):

    def are(self, kind, op, cases):
        """Each case is a pair: x, y, z (or the first of them), and what's wanted of them."""
        for numbers, wanted in cases:
            with self.subTest(kind=kind, op=op, numbers=numbers):
                self.assertEqual([[0, bits(wanted)]], answered(round_call(kind, op, *numbers)))

    def are_in_each(self, op, cases):
        """cases is a function of a kind's next(1) - 1, greatest and least that gives a list."""
        for kind in KINDS:
            self.are(kind, op, cases(NEXT[kind], GREATEST[kind], LEAST[kind]))

    def test_add(self):
        self.are_in_each(ADD, lambda e, g, d: [
            ((1.5, 2.25), 3.75), ((1.0, -3.0), -2.0), ((1.0, e / 2), 1.0), ((1 + e, e / 2), 1 + 2 * e),
            ((-1.0, -e / 2), -1.0), ((-1 - e, -e / 2), -1 - 2 * e), ((1.0, 3 * e / 4), 1 + e), ((g, g), g),
            ((-g, -g), -g), ((g, -g), 0.0), ((d, d), 2 * d), ((d, -3 * d), -2 * d), ((1.0, d), 1.0), ((g, 1.0), g),
            ((1.0, -d), 1.0),
        ])

    def test_subtract(self):
        self.are_in_each(SUBTRACT, lambda e, g, d: [
            ((1.5, 2.25), -0.75), ((3.0, -1.0), 4.0), ((1 + e, 1.0), e), ((g, -g), g), ((-g, g), -g), ((d, 2 * d), -d),
            ((1.0, e / 4), 1.0), ((1.0, 3 * e / 8), 1 - e / 2), ((d / e, d / e - d), d), ((0.0, 5.0), -5.0),
        ])

    def test_multiply(self):
        self.are_in_each(MULTIPLY, lambda e, g, d: [
            ((1.5, -2.5), -3.75), ((1 + e, 1 + e), 1 + 2 * e), ((1 + e, 1.5), 1.5 + 2 * e), ((g, 2.0), g),
            ((-g, g), -g), ((d, 0.5), 0.0), ((3 * d, 0.5), 2 * d), ((5 * d, 0.5), 2 * d), ((-3 * d, 0.5), -2 * d),
            ((d, 0.75), d), ((d / e, 0.5), d / e / 2), ((d / e - d, 1 + e), d / e), ((d, d), 0.0), ((g, d), g * d),
        ])

    def test_divide(self):
        self.are_in_each(DIVIDE, lambda e, g, d: [
            ((3.0, 2.0), 1.5), ((-3.0, 2.0), -1.5), ((3.0, -2.0), -1.5), ((-3.0, -2.0), 1.5), ((d, 2.0), 0.0),
            ((3 * d, 2.0), 2 * d), ((3 * d, -2.0), -2 * d), ((g, d), g), ((-g, d), -g), ((g, 0.5), g), ((d, g), 0.0),
            ((1.0, 1 + e), 1 - e), ((1.0, 1 - e / 2), 1 + e), ((d, d), 1.0), ((d, -d), -1.0), ((g, g), 1.0),
        ])
        for kind, third in ((HALF, 0.333251953125), (SINGLE, 0.3333333432674408), (DOUBLE, 1 / 3)):
            self.are(kind, DIVIDE, [((1.0, 3.0), third), ((-1.0, 3.0), -third), ((1.0, -3.0), -third)])

    def test_a_quotient_by_zero(self):
        self.are_in_each(DIVIDE, lambda e, g, d: [
            ((x, zero), 0.0) for x in (1.0, -1.0, 0.0, -0.0, g, -g, d, -d) for zero in (0.0, -0.0)])
        # What's rounded to 0 in the kind is 0 here.
        for kind in (HALF, SINGLE):
            self.are(kind, DIVIDE, [((1.0, LEAST[kind] / 2), 0.0), ((-1.0, -LEAST[kind] / 2), 0.0),
                                    ((1.0, 1e-300), 0.0), ((LEAST[kind], 0.75 * LEAST[kind]), 1.0)])
        self.are(DOUBLE, DIVIDE, [((1e-300, 1e-300), 1.0), ((1.0, LEAST[DOUBLE]), GREATEST[DOUBLE])])

    def test_root(self):
        self.are_in_each(ROOT, lambda e, g, d: [
            ((4.0,), 2.0), ((2.25,), 1.5), ((1.0,), 1.0), ((1 + e,), 1.0), ((1 + 2 * e,), 1 + e), ((1 + 3 * e,), 1 + e),
            ((1 - e / 2,), 1 - e / 2),
        ])
        for kind, two in ((HALF, 1.4140625), (SINGLE, 1.4142135381698608), (DOUBLE, 2 ** 0.5)):
            self.are(kind, ROOT, [((2.0,), two)])
        self.are(HALF, ROOT, [((LEAST[HALF],), 2.0 ** -12), ((65504.0,), 255.875), ((1e300,), 255.875)])
        self.are(SINGLE, ROOT, [((2.0 ** -148,), 2.0 ** -74), ((2.0 ** -146,), 2.0 ** -73)])
        self.are(DOUBLE, ROOT, [((2.0 ** -1074,), 2.0 ** -537), ((GREATEST[DOUBLE],), 2.0 ** 512 - 2.0 ** 459),
                                ((2.0 ** -1074 * 2,), math.sqrt(2.0 ** -1073))])

    def test_the_root_of_what_is_below_zero(self):
        self.are_in_each(ROOT, lambda e, g, d: [((x,), 0.0) for x in (-d, -1.0, -4.0, -g, 0.0, -0.0)])
        for kind in (HALF, SINGLE):
            self.are(kind, ROOT, [((-1e-300,), 0.0), ((1e-300,), 0.0)])

    def test_multiply_add(self):
        self.are_in_each(MULTIPLY_ADD, lambda e, g, d: [
            ((2.0, 3.0, 4.0), 10.0), ((-2.0, 3.0, 4.0), -2.0), ((1 + e, 1 - e, -1.0), -e * e), ((g, 2.0, -g), g),
            ((g, g, -g), g), ((-g, g, g), -g), ((1 + e, 1 + e, -1 - 2 * e), e * e), ((d, 0.5, d), 2 * d),
            ((d, 0.25, d), d), ((d, 0.5, 0.0), 0.0), ((0.0, 5.0, d), d), ((2.0, 3.0, -6.0), 0.0),
        ])

    def test_multiply_subtract(self):
        self.are_in_each(MULTIPLY_SUBTRACT, lambda e, g, d: [
            ((2.0, 3.0, 4.0), 2.0), ((2.0, -3.0, 4.0), -10.0), ((1 + e, 1 - e, 1.0), -e * e), ((g, 2.0, g), g),
            ((1 + e, 1 + e, 1 + 2 * e), e * e), ((0.0, 5.0, d), -d), ((2.0, 3.0, 6.0), 0.0),
        ])

    def test_subtract_product(self):
        self.are_in_each(SUBTRACT_PRODUCT, lambda e, g, d: [
            ((2.0, 3.0, 4.0), -2.0), ((2.0, -3.0, 4.0), 10.0), ((1 + e, 1 - e, 1.0), e * e), ((g, 2.0, g), -g),
            ((1 + e, 1 + e, 1 + 2 * e), -e * e), ((0.0, 5.0, d), d), ((2.0, 3.0, 6.0), 0.0),
        ])

    def test_negate_multiply_subtract(self):
        self.are_in_each(NEGATE, lambda e, g, d: [
            ((2.0, 3.0, 4.0), -10.0), ((2.0, -3.0, 4.0), 2.0), ((1 + e, 1 - e, -1.0), e * e), ((g, 2.0, -g), -g),
            ((1 + e, 1 + e, -1 - 2 * e), -e * e), ((0.0, 5.0, d), -d), ((2.0, 3.0, -6.0), 0.0),
        ])

    def test_every_zero_is_plus_zero(self):
        zeros = [(ADD, (0.0, -0.0)), (ADD, (-0.0, -0.0)), (ADD, (-1.0, 1.0)), (SUBTRACT, (-0.0, 0.0)),
                 (SUBTRACT, (-2.0, -2.0)), (MULTIPLY, (-1.0, 0.0)), (MULTIPLY, (-0.0, 5.0)), (DIVIDE, (0.0, -3.0)),
                 (DIVIDE, (-0.0, 3.0)), (DIVIDE, (-3.0, 0.0)), (ROOT, (-0.0,)), (ROOT, (-1.0,)),
                 (MULTIPLY_ADD, (-1.0, 0.0, -0.0)), (MULTIPLY_SUBTRACT, (-1.0, 0.0, 0.0)),
                 (MULTIPLY_SUBTRACT, (-0.0, 1.0, 0.0)), (SUBTRACT_PRODUCT, (0.0, 1.0, -0.0)), (NEGATE, (0.0, 1.0, 0.0)),
                 (NEGATE, (1.0, 1.0, -1.0)), (NEGATE, (-0.0, -0.0, -0.0))]
        for kind in KINDS:
            self.are(kind, MULTIPLY, [((-LEAST[kind], 0.5), 0.0), ((-LEAST[kind], LEAST[kind]), 0.0)])
            self.are(kind, DIVIDE, [((-LEAST[kind], 2.0), 0.0), ((-LEAST[kind], GREATEST[kind]), 0.0)])
            for op, numbers in zeros:
                self.are(kind, op, [(numbers, 0.0)])

    def test_numbers_are_rounded_to_the_kind_first(self):
        self.are(HALF, ADD, [((0.1, 0.0), 0.0999755859375), ((2049.0, 2049.0), 4096.0), ((2051.0, -2049.0), 4.0),
                             ((1e300, -65504.0), 0.0), ((2.0 ** -25, 2.0 ** -25), 0.0), ((65520.0, -16.0), 65472.0),
                             ((1.5 * 2.0 ** -24, 0.0), 2.0 ** -23), ((2.5 * 2.0 ** -24, 0.0), 2.0 ** -23)])
        self.are(SINGLE, ADD, [((0.1, 0.0), 0.10000000149011612), ((16777217.0, 16777217.0), 33554432.0),
                               ((16777219.0, -16777217.0), 4.0), ((1e300, -GREATEST[SINGLE]), 0.0),
                               ((2.0 ** -150, 2.0 ** -150), 0.0), ((1.5 * 2.0 ** -149, 0.0), 2.0 ** -148)])
        self.are(DOUBLE, ADD, [((0.1, 0.2), 0.1 + 0.2), ((2.0 ** 53, 1.0), 2.0 ** 53)])
        for kind in (HALF, SINGLE):
            e = NEXT[kind]
            # 1 + e / 2 is rounded to 1, 1 + 3 e / 2 to 1 + 2 e.
            self.are(kind, MULTIPLY, [((1 + e / 2, 1.0), 1.0), ((1.0, 1 + 3 * e / 2), 1 + 2 * e)])
            self.are(kind, MULTIPLY_ADD, [((1 + e / 2, 1 + e / 2, -1.0), 0.0), ((1.0, 1.0, -1 - e / 2), 0.0)])
            self.are(kind, MULTIPLY_SUBTRACT, [((1.0, 1.0, 1 + e / 2), 0.0)])
            self.are(kind, SUBTRACT_PRODUCT, [((1.0, 1 + e / 2, 1 + e / 2), 0.0)])
            self.are(kind, NEGATE, [((1 + e / 2, 1.0, -1.0), 0.0), ((1.0, 1.0, -1 - e / 2), 0.0)])
            self.are(kind, SUBTRACT, [((1 + e / 2, 1.0), 0.0)])
            self.are(kind, DIVIDE, [((1 + e / 2, 1.0), 1.0)])
            self.are(kind, ROOT, [((4 + 2 * e,), 2.0)])

    def test_past_the_greatest(self):
        self.are(HALF, ADD, [((65504.0, 15.0), 65504.0), ((65504.0, 16.0), 65504.0), ((-65504.0, -32.0), -65504.0)])
        self.are(DOUBLE, MULTIPLY, [((1e300, 1e300), GREATEST[DOUBLE]), ((1e300, -1e300), -GREATEST[DOUBLE])])
        self.are(DOUBLE, MULTIPLY_ADD, [((1e300, 1e300, -1e300), GREATEST[DOUBLE]),
                                        ((2.0, GREATEST[DOUBLE], -GREATEST[DOUBLE]), GREATEST[DOUBLE])])

    def test_what_an_op_does_not_look_at(self):
        for kind in KINDS:
            for op, wanted in ((ADD, 5.0), (SUBTRACT, -1.0), (MULTIPLY, 6.0)):
                self.are(kind, op, [((2.0, 3.0, z), wanted) for z in (0.0, -7.0, GREATEST[DOUBLE], 2.0 ** -1074)])
            self.are(kind, DIVIDE, [((3.0, 2.0, z), 1.5) for z in (0.0, -7.0, GREATEST[DOUBLE])])
            self.are(kind, ROOT, [((4.0, y, z), 2.0) for y in (0.0, -7.0) for z in (0.0, GREATEST[DOUBLE])])

    def test_as_the_rows_reckon(self):
        given = {"a": 0, "b": 1, "c": 2}
        for kind in KINDS:
            for numbers in ((0.1, 0.3, -0.03), (1e5, 1e-5, 1e300), (-3.5, 2.0 ** -20, 7.0)):
                for op in range(9):
                    blocks = [block(1, kind, p=i) for i in range(3)] + [block(op + 2, kind, **given)]
                    told = answered(OPEN, build(blocks, numbers), run(0, [record()]), signal(0, 3),
                                    round_call(kind, op, *numbers))
                    self.assertEqual(told[3], told[4])

    def test_anywhere_in_a_line(self):
        five = round_call(DOUBLE, ADD, 2.0, 3.0)
        self.assertEqual([[0, bits(5.0)]] * 100, answered(*[five] * 100))
        told = answered(OPEN, five, build([block(39, DOUBLE, a=0)]), five, OPEN, five)
        self.assertEqual([[0], [0, bits(5.0)], [1], [0, bits(5.0)], [0], [0, bits(5.0)]], told)


class RefusalTest(unittest.TestCase):

    def test_kind_and_op(self):
        for wrong in (BELOW_RANGE, -1, 3, 4, ABOVE_RANGE):
            for op in range(9):
                self.assertEqual([[-2]], answered(round_call(wrong, op, 1.0, 1.0, 1.0)))
        for wrong in (BELOW_RANGE, -1, 9, 10, ABOVE_RANGE):
            for kind in KINDS:
                self.assertEqual([[-2]], answered(round_call(kind, wrong, 1.0, 1.0, 1.0)))

    def test_not_finite(self):
        for kind in KINDS:
            for op in range(9):
                for place in range(3):
                    for wrong in NOT_FINITE:
                        numbers = [1.0, 1.0, 1.0]
                        numbers[place] = wrong
                        self.assertEqual([[-5]], answered(round_call(kind, op, *numbers)), (op, numbers))

    def test_out_of_range_first(self):
        for kind, op in ((3, 0), (-1, 8), (0, 9), (2, -1), (3, 9)):
            self.assertEqual([[-2]], answered(round_call(kind, op, INFINITE, NO_NUMBER, INFINITE)))


if __name__ == "__main__":
    unittest.main()
