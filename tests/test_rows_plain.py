"""Rows of the table that look only at what they take in this tick, each in the three kinds."""

import unittest

from lines import Bench, DOUBLE, GREATEST, HALF, KINDS, LEAST, NEXT, SINGLE, answered, block, build, OPEN
from lines import record, records_of, run

A = {"a": 1}
AB = {"a": 1, "b": 2}
ABC = {"a": 1, "b": 2, "c": 3}


class InKinds(Bench):
    """Asks the same of each kind; a case is a pair: a tuple of inputs, the signal that's wanted."""

    def cases_are(self, what, given, cases, constants=(), kinds=KINDS):
        """cases is a list, or a function of a kind's next(1) - 1, greatest and least that gives one."""
        for kind in kinds:
            told = cases(NEXT[kind], GREATEST[kind], LEAST[kind]) if callable(cases) else cases
            for values, wanted in told:
                with self.subTest(what=what, kind=kind, values=values):
                    self.signals_are(kind, what, given, list(values), constants, [wanted])


class SensorTest(Bench):

    def sensed(self, kind, place, width, some, q, r, wanted):
        came = [record((place, some))]
        with self.subTest(kind=kind, place=place, width=width):
            self.blocks_are([block(0, kind, a=place, b=width, q=0, r=1)], [], [q, r], [(0, [wanted])], came)

    def test_widths(self):
        some = [0x81, 0x92, 0xA3, 0xB4, 0xC5, 0xD6, 0xE7, 0xF8]
        for width in range(8):
            size = 1 << width % 4
            whole = int.from_bytes(bytes(some[:size]), "little", signed=width >= 4)
            for place in (8, 24, 248):
                self.sensed(DOUBLE, place, width, some, 1.0, 0.0, float(whole))

    def test_each_place_of_a_width(self):
        for width in (1, 6):
            size = 1 << width % 4
            for place in range(size, 256, size):
                self.sensed(DOUBLE, place, width, [7] + [0] * (size - 1), 1.0, 0.0, 7.0)

    def test_signs(self):
        for kind in KINDS:
            self.sensed(kind, 8, 4, [255], 1.0, 0.0, -1.0)
            self.sensed(kind, 8, 4, [128], 1.0, 0.0, -128.0)
            self.sensed(kind, 8, 4, [127], 1.0, 0.0, 127.0)
            self.sensed(kind, 8, 5, [255, 127], 1.0, -32767.0 if kind else -32768.0, 0.0)
            self.sensed(kind, 8, 0, [255], 1.0, 0.0, 255.0)
            self.sensed(kind, 8, 5, [0, 0xFC], 1.0, 0.0, -1024.0)
            self.sensed(kind, 8, 7, [255] * 8, 1.0, 0.0, -1.0)

    def test_times_q_plus_r(self):
        for kind in KINDS:
            self.sensed(kind, 2, 1, [10, 0], 0.5, 2.0, 7.0)
            self.sensed(kind, 2, 1, [10, 0], -0.5, 2.0, -3.0)

    def test_whole_number_is_rounded_first(self):
        self.sensed(HALF, 2, 1, [0x01, 0x08], 2.0, 0.0, 4096.0)
        self.sensed(HALF, 2, 1, [0x01, 0x08], 2.0, 2.0, 4096.0)
        self.sensed(HALF, 2, 1, [0x03, 0x08], 1.0, 0.0, 2052.0)
        self.sensed(HALF, 2, 1, [255, 255], 1.0, -65472.0, 32.0)
        self.sensed(HALF, 8, 7, [0] * 7 + [128], 1.0, 0.0, -65504.0)
        self.sensed(SINGLE, 4, 2, [1, 0, 0, 1], 1.0, 0.0, 2.0 ** 24)
        self.sensed(SINGLE, 4, 2, [255] * 4, 1.0, 0.0, 2.0 ** 32)
        self.sensed(DOUBLE, 8, 3, [1] + [0] * 5 + [32, 0], 1.0, 0.0, 2.0 ** 53)
        self.sensed(DOUBLE, 8, 3, [255] * 8, 1.0, 0.0, 2.0 ** 64)

    def test_as_one(self):
        for kind in KINDS:
            e = NEXT[kind]
            self.sensed(kind, 1, 0, [3], 1 + e, -3.0, 3 * e)

    def test_q_and_r_are_rounded(self):
        self.sensed(HALF, 1, 0, [1], 1 + 2.0 ** -11, 0.0, 1.0)
        self.sensed(HALF, 1, 0, [0], 1.0, 1e300, 65504.0)


class ConstantTest(Bench):

    def rounded(self, kind, pairs):
        for value, wanted in pairs:
            with self.subTest(kind=kind, value=value):
                self.signals_are(kind, 1, {"p": 0}, [], [value], [wanted])

    def test_halves(self):
        self.rounded(HALF, [
            (0.1, 0.0999755859375), (1 / 3, 0.333251953125), (-0.1, -0.0999755859375), (-0.0, 0.0),
            (2049.0, 2048.0), (2051.0, 2052.0), (2049.0000000000005, 2050.0), (65519.0, 65504.0),
            (65520.0, 65504.0), (1e308, 65504.0), (-1e308, -65504.0), (65488.0, 65472.0),
            (2.0 ** -24, 2.0 ** -24), (2.0 ** -25, 0.0), (-(2.0 ** -25), 0.0), (1.5 * 2.0 ** -24, 2.0 ** -23),
            (2.5 * 2.0 ** -24, 2.0 ** -23), (2.0 ** -25 + 2.0 ** -60, 2.0 ** -24), (2.0 ** -1074, 0.0),
            (1023.5 * 2.0 ** -24, 2.0 ** -14), (1022.5 * 2.0 ** -24, 1022 * 2.0 ** -24),
        ])

    def test_singles(self):
        self.rounded(SINGLE, [
            (0.1, 0.10000000149011612), (1 / 3, 0.3333333432674408), (16777217.0, 16777216.0),
            (16777219.0, 16777220.0), (3.5e38, GREATEST[SINGLE]), (-1e300, -GREATEST[SINGLE]),
            (3.4028235677973366e38, GREATEST[SINGLE]), (2.0 ** -149, 2.0 ** -149), (2.0 ** -150, 0.0),
            (1.5 * 2.0 ** -149, 2.0 ** -148), (2.0 ** -150 + 2.0 ** -200, 2.0 ** -149), (-(2.0 ** -1074), 0.0),
            ((2 ** 23 - 0.5) * 2.0 ** -149, 2.0 ** -126),
        ])

    def test_doubles(self):
        for value in (0.1, -1 / 3, 2.0 ** -1074, -(2.0 ** -1074), 2.0 ** -1022, 2.0 ** -1022 - 2.0 ** -1074,
                      GREATEST[DOUBLE], -GREATEST[DOUBLE], 1 + NEXT[DOUBLE], 12345.678):
            self.rounded(DOUBLE, [(value, value)])
        self.rounded(DOUBLE, [(-0.0, 0.0)])

    def test_bits_of_doubles(self):
        # The watched row 25 compares in doubles; these are put out as whole numbers instead.
        cases = [(0x3FF0000000000000, 1), (0x4330000000000001, 2 ** 52 + 1), (0xC340000000000000, -(2 ** 53)),
                 (0x4000000000000000, 2), (0x8000000000000000, 0), (0x403E000000000000, 30)]
        for pattern, whole in cases:
            blocks = [block(1, DOUBLE, p=0), block(36, DOUBLE, a=0, b=0, c=7, p=0)]
            told = answered(OPEN, build(blocks, [pattern]), run(0, [record()]))
            self.assertEqual(list((whole % 2 ** 64).to_bytes(8, "little")), records_of(told[2])[0][:8])


class ArithmeticTest(InKinds):

    def test_add(self):
        self.cases_are(2, AB, lambda e, g, d: [
            ((1.5, 2.25), 3.75), ((1.0, -3.0), -2.0), ((0.0, -0.0), 0.0), ((1.0, -1.0), 0.0),
            ((1.0, e / 2), 1.0), ((1 + e, e / 2), 1 + 2 * e), ((1.0, e / 2 * (1 + e)), 1 + e),
            ((-1.0, -e / 2), -1.0), ((g, g), g), ((-g, -g), -g), ((g, -g), 0.0), ((d, d), 2 * d),
            ((d, -3 * d), -2 * d), ((1.0, d), 1.0), ((g, 1.0), g), ((2 + 2 * e, e), 2 + 4 * e),
        ])

    def test_subtract(self):
        self.cases_are(3, AB, lambda e, g, d: [
            ((1.5, 2.25), -0.75), ((3.0, -1.0), 4.0), ((1 + e, 1.0), e), ((g, -g), g), ((-g, g), -g),
            ((d, 2 * d), -d), ((1.0, e / 4), 1.0), ((1.0, 3 * e / 8), 1 - e / 2), ((d, d), 0.0),
        ])

    def test_multiply(self):
        self.cases_are(4, AB, lambda e, g, d: [
            ((1.5, -2.5), -3.75), ((0.0, -3.0), 0.0), ((1 + e, 1 + e), 1 + 2 * e), ((g, 2.0), g), ((-g, g), -g),
            ((d, 0.5), 0.0), ((-d, 0.5), 0.0), ((3 * d, 0.5), 2 * d), ((5 * d, 0.5), 2 * d), ((7 * d, 0.5), 4 * d),
            ((d, d), 0.0), ((d, 0.75), d), ((-3 * d, 0.5), -2 * d), ((1 + e, 1.5), 1.5 + 2 * e),
        ])

    def test_from_denormal_to_normal(self):
        for kind, edge in ((HALF, 2.0 ** -14), (SINGLE, 2.0 ** -126), (DOUBLE, 2.0 ** -1022)):
            d = LEAST[kind]
            self.cases_are(4, AB, [((edge / 2, 2.0), edge), ((edge, 0.5), edge / 2)], (), (kind,))
            self.cases_are(3, AB, [((edge, edge - d), d), ((edge - d, edge), -d)], (), (kind,))
            self.cases_are(2, AB, [((edge - d, d), edge), ((edge / 2, edge / 2), edge)], (), (kind,))

    def test_divide(self):
        self.cases_are(5, AB, lambda e, g, d: [
            ((3.0, 2.0), 1.5), ((-3.0, 2.0), -1.5), ((3.0, -2.0), -1.5), ((-3.0, -2.0), 1.5),
            ((1.0, 0.0), 0.0), ((-1.0, 0.0), 0.0), ((0.0, 0.0), 0.0), ((g, -0.0), 0.0), ((0.0, -3.0), 0.0),
            ((d, 2.0), 0.0), ((3 * d, 2.0), 2 * d), ((3 * d, -2.0), -2 * d), ((g, d), g), ((-g, d), -g),
            ((g, 0.5), g), ((d, g), 0.0), ((g, -d), -g), ((d, -d), -1.0),
            ((1.0, 1 + e), 1 - e), ((1.0, 1 - e / 2), 1 + e), ((d, d), 1.0),
        ])
        for kind, third in ((HALF, 0.333251953125), (SINGLE, 0.3333333432674408), (DOUBLE, 1 / 3)):
            self.cases_are(5, AB, [((1.0, 3.0), third), ((1.0, -3.0), -third)], (), (kind,))

    def test_root(self):
        self.cases_are(6, A, lambda e, g, d: [
            ((4.0,), 2.0), ((2.25,), 1.5), ((0.0,), 0.0), ((-4.0,), 0.0), ((-d,), 0.0), ((-g,), 0.0),
            ((1 + e,), 1.0), ((1 + 2 * e,), 1 + e), ((1 + 3 * e,), 1 + e), ((1 - e / 2,), 1 - e / 2),
        ])
        for kind, two in ((HALF, 1.4140625), (SINGLE, 1.4142135381698608), (DOUBLE, 2 ** 0.5)):
            self.cases_are(6, A, [((2.0,), two)], (), (kind,))
        self.cases_are(6, A, [((LEAST[HALF],), 2.0 ** -12), ((65504.0,), 255.875)], (), (HALF,))
        self.cases_are(6, A, [((2.0 ** -148,), 2.0 ** -74)], (), (SINGLE,))
        self.cases_are(6, A, [((2.0 ** -1074,), 2.0 ** -537), ((GREATEST[DOUBLE],), 2.0 ** 512 - 2.0 ** 459)],
                       (), (DOUBLE,))

    def test_multiply_add(self):
        self.cases_are(7, ABC, lambda e, g, d: [
            ((2.0, 3.0, 4.0), 10.0), ((-2.0, 3.0, 4.0), -2.0), ((2.0, 3.0, -6.0), 0.0),
            ((1 + e, 1 - e, -1.0), -e * e), ((g, 2.0, -g), g), ((g, g, -g), g), ((-g, g, g), -g),
            ((1 + e, 1 + e, -1 - 2 * e), e * e), ((d, 0.5, d), 2 * d), ((d, 0.25, d), d), ((0.0, 5.0, d), d),
        ])

    def test_multiply_subtract(self):
        self.cases_are(8, ABC, lambda e, g, d: [
            ((2.0, 3.0, 4.0), 2.0), ((2.0, -3.0, 4.0), -10.0), ((1 + e, 1 - e, 1.0), -e * e), ((g, 2.0, g), g),
        ])

    def test_subtract_product(self):
        self.cases_are(9, ABC, lambda e, g, d: [
            ((2.0, 3.0, 4.0), -2.0), ((2.0, -3.0, 4.0), 10.0), ((1 + e, 1 - e, 1.0), e * e), ((g, 2.0, g), -g),
        ])

    def test_negate_multiply_subtract(self):
        self.cases_are(10, ABC, lambda e, g, d: [
            ((2.0, 3.0, 4.0), -10.0), ((2.0, -3.0, 4.0), 2.0), ((1 + e, 1 - e, -1.0), e * e), ((g, 2.0, -g), -g),
        ])

    def test_what_is_taken_is_rounded_to_the_kind(self):
        for what, half in ((2, 3.0), (3, -1.0), (4, 2.0), (5, 0.5)):
            self.cases_are(what, AB, [((1 + 2.0 ** -11, 2 - 2.0 ** -40), half)], (), (HALF,))
        self.cases_are(7, ABC, [((1e300, 1.0, 0.0), GREATEST[SINGLE])], (), (SINGLE,))
        self.cases_are(2, AB, [((1e300, -1e300), 0.0), ((1e300, -1.0), 65504.0)], (), (HALF,))


class OrderTest(InKinds):

    def test_lesser_greater(self):
        self.cases_are(11, AB, lambda e, g, d: [((1.0, 2.0), 1.0), ((2.0, -3.0), -3.0), ((d, 0.0), 0.0), ((g, g), g)])
        self.cases_are(12, AB, lambda e, g, d: [((1.0, 2.0), 2.0), ((2.0, -3.0), 2.0), ((-d, 0.0), 0.0), ((g, -g), g)])

    def test_signs(self):
        self.cases_are(13, A, lambda e, g, d: [((1.5,), 1.5), ((-1.5,), 1.5), ((0.0,), 0.0), ((-g,), g), ((-d,), d)])
        self.cases_are(14, A, lambda e, g, d: [((1.5,), -1.5), ((-1.5,), 1.5), ((0.0,), 0.0), ((g,), -g), ((-d,), d)])
        self.cases_are(39, A, lambda e, g, d: [((1.5,), 1.0), ((-g,), -1.0), ((0.0,), 0.0), ((d,), 1.0),
                                               ((-d,), -1.0)])

    def test_limit(self):
        cases = [((-3.0,), -2.0), ((-2.0,), -2.0), ((0.5,), 0.5), ((1.0,), 1.0), ((1.5,), 1.0)]
        self.cases_are(15, {"a": 1, "p": 0, "q": 1}, cases, (-2.0, 1.0))
        self.cases_are(15, {"a": 1, "p": 0, "q": 0}, [((-3.0,), 1.0), ((3.0,), 1.0)], (1.0,))
        self.cases_are(15, {"a": 1, "p": 1, "q": 0}, [((3.0,), 0.0999755859375)], (0.1, -1.0), (HALF,))

    def test_dead_zone(self):
        cases = [((3.0,), 2.0), ((1.0,), 0.0), ((0.5,), 0.0), ((0.0,), 0.0), ((-1.0,), 0.0), ((-3.0,), -2.0)]
        self.cases_are(16, {"a": 1, "p": 0}, cases, (1.0,))
        self.cases_are(16, {"a": 1, "p": 0}, [((2.5,), 2.5), ((0.0,), 0.0), ((-2.5,), -2.5)], (-0.0,))
        for kind in KINDS:
            e = NEXT[kind]
            edge = [((1.0,), 1 - e / 2), ((-1.0,), e / 2 - 1)]
            self.cases_are(16, {"a": 1, "p": 0}, edge, (3 * e / 8,), (kind,))

    def test_comparisons(self):
        self.cases_are(23, AB, lambda e, g, d: [((1.0, 1 + e), 1.0), ((1.0, 1.0), 0.0), ((1 + e, 1.0), 0.0),
                                                ((-d, 0.0), 1.0), ((-g, g), 1.0)])
        self.cases_are(24, AB, lambda e, g, d: [((1.0, 1 + e), 1.0), ((1.0, 1.0), 1.0), ((1 + e, 1.0), 0.0),
                                                ((d, 0.0), 0.0)])
        self.cases_are(25, AB, lambda e, g, d: [((1.0, 1 + e), 0.0), ((1.0, 1.0), 1.0), ((1 + e, 1.0), 0.0),
                                                ((0.0, -0.0), 1.0), ((d, -d), 0.0)])

    def test_comparisons_in_the_kind(self):
        for kind, wanted in ((HALF, 1.0), (SINGLE, 0.0), (DOUBLE, 0.0)):
            self.cases_are(25, AB, [((1.0, 1 + 2.0 ** -20), wanted)], (), (kind,))
            self.cases_are(23, AB, [((1.0, 1 + 2.0 ** -20), 1 - wanted)], (), (kind,))


class LogicTest(InKinds):

    def test_choice(self):
        self.cases_are(26, ABC, lambda e, g, d: [((0.0, 2.0, 3.0), 3.0), ((1.0, 2.0, 3.0), 2.0), ((-d, 2.0, 3.0), 2.0)])
        # What's taken is rounded first: this one is 0 as a half.
        self.cases_are(26, ABC, [((2.0 ** -25, 2.0, 3.0), 3.0)], (), (HALF,))

    def test_truth(self):
        pairs = ((0.0, 0.0), (0.0, 5.0), (-5.0, 0.0), (0.5, 1.0))
        for what, wanted in ((27, (0, 0, 0, 1)), (28, (0, 1, 1, 1))):
            self.cases_are(what, AB, list(zip(pairs, wanted)))
        self.cases_are(29, A, lambda e, g, d: [((0.0,), 1.0), ((d,), 0.0), ((-1.0,), 0.0)])


class CurveTest(Bench):

    def on_curve(self, kind, points, pairs):
        constants = [8.0] + [number for point in points for number in point]
        for value, wanted in pairs:
            with self.subTest(kind=kind, value=value):
                self.signals_are(kind, 34, {"a": 1, "b": len(points), "p": 1}, [value], constants, [wanted])

    def test_ahead_between_and_behind(self):
        for kind in KINDS:
            self.on_curve(kind, [(-1.0, 0.5), (1.0, 10.0), (3.0, -10.0)], [
                (-5.0, 0.5), (-1.0, 0.5), (0.0, 5.25), (1.0, 10.0), (1.5, 5.0), (2.0, 0.0), (3.0, -10.0), (9.0, -10.0),
            ])

    def test_one_point(self):
        for kind in KINDS:
            self.on_curve(kind, [(1.0, 3.0)], [(0.0, 3.0), (1.0, 3.0), (2.0, 3.0)])

    def test_64_points(self):
        points = [(float(i), float(i * 37 % 64)) for i in range(64)]
        for kind in KINDS:
            self.on_curve(kind, points, [(-1.0, 0.0), (0.0, 0.0), (31.5, 45.5), (62.0, 54.0), (62.5, 40.5),
                                         (63.0, 27.0), (64.0, 27.0)])

    def test_quotient_is_rounded(self):
        for kind, third in ((HALF, 0.333251953125), (SINGLE, 0.3333333432674408), (DOUBLE, 1 / 3)):
            self.on_curve(kind, [(0.0, 0.0), (3.0, 4.0)], [(1.0, 4 * third)])

    def test_differences_are_rounded(self):
        for kind in KINDS:
            e = NEXT[kind]
            # a - x0 is 1 + 3 e / 4 and is rounded up; x1 - x0 is 2.
            self.on_curve(kind, [(-1.0, 0.0), (1.0, 8.0)], [(3 * e / 4, 4 + 4 * e)])
            # x1 - x0 is 1 + 3 e / 4 and is rounded up to 1 + e: the share is 1 - e.
            self.on_curve(kind, [(-1.0, 0.0), (3 * e / 4, 8.0)], [(0.0, 8 - 8 * e)])
            # y1 - y0 is 1 + 3 e / 4 and is rounded up to 1 + e; half of it less 1 is held neither way.
            self.on_curve(kind, [(0.0, -1.0), (2.0, 3 * e / 4)], [(1.0, -0.5 + e / 2)])

    def test_on_a_point_it_is_the_point_s_y(self):
        for kind in KINDS:
            e = NEXT[kind]
            # The way up to e / 4 is rounded to 1, which would lead to 0.
            self.on_curve(kind, [(0.0, -1.0), (1.0, e / 4), (2.0, 0.0)], [(1.0, e / 4)])

    def test_held_between_the_points(self):
        for kind in KINDS:
            e = NEXT[kind]
            # The share is rounded up to 1, the difference of the ys to 1 + e: the rest as one is e or -e.
            self.on_curve(kind, [(-1.0, -1.0), (e, 3 * e / 4)], [(3 * e / 4, 3 * e / 4)])
            self.on_curve(kind, [(-1.0, 1.0), (e, -3 * e / 4)], [(3 * e / 4, -3 * e / 4)])


class WholeTest(InKinds):

    def test_how(self):
        values = (2.5, 3.5, 1.25, 1.75, 0.5, 0.0, -0.5, -1.5, -2.5, -1.25, -1.75, 7.0, -7.0)
        told = {
            0: (2, 4, 1, 2, 0, 0, 0, -2, -2, -1, -2, 7, -7),
            1: (2, 3, 1, 1, 0, 0, -1, -2, -3, -2, -2, 7, -7),
            2: (3, 4, 2, 2, 1, 0, 0, -1, -2, -1, -1, 7, -7),
            3: (2, 3, 1, 1, 0, 0, 0, -1, -2, -1, -1, 7, -7),
        }
        for how, wholes in told.items():
            cases = [((value,), whole) for value, whole in zip(values, wholes)]
            self.cases_are(35, {"a": 1, "p": how}, cases)

    def test_edges(self):
        for how, up, down in ((0, 0, 0), (1, 0, -1), (2, 1, 0), (3, 0, 0)):
            self.cases_are(35, {"a": 1, "p": how}, lambda e, g, d: [((d,), up), ((-d,), down), ((g,), g), ((-g,), -g)])
        self.cases_are(35, {"a": 1, "p": 0}, lambda e, g, d: [((0.5 + e / 2,), 1), ((0.5 - e / 4,), 0)])


class RudderTest(Bench):

    def put_out(self, kind, value, how, place, width, wanted, whole):
        blocks = [block(36, kind, a=1, b=place, c=width, p=how)]
        with self.subTest(kind=kind, value=value, how=how, width=width):
            self.blocks_are(blocks, [value], [], [(0, [wanted])])
            sent = answered(OPEN, build([block(1, DOUBLE, p=0), block(36, kind, a=0, b=place, c=width, p=how)],
                                        [float(value)]), run(0, [record()]))
            size = 1 << width % 4
            some = (whole % (1 << 8 * size)).to_bytes(size, "little")
            self.assertEqual(record((place, some)), records_of(sent[2])[0])

    def test_each_width_is_held(self):
        for width in range(8):
            bits_of_it = 8 << width % 4
            low = -(1 << bits_of_it - 1) if width >= 4 else 0
            high = (1 << bits_of_it - 1) - 1 if width >= 4 else (1 << bits_of_it) - 1
            self.put_out(DOUBLE, 1e300, 0, 16, width, float(high), high)
            self.put_out(DOUBLE, -1e300, 0, 16, width, float(low), low)
            self.put_out(DOUBLE, 100.0, 0, 16, width, 100.0, 100)
            self.put_out(DOUBLE, -100.0, 0, 16, width, -100.0 if low else 0.0, -100 if low else 0)

    def test_lowest_byte_first(self):
        self.put_out(DOUBLE, float(0x1234), 0, 4, 1, float(0x1234), 0x1234)
        self.put_out(DOUBLE, float(0x1234567890AB), 0, 248, 3, float(0x1234567890AB), 0x1234567890AB)
        self.put_out(DOUBLE, -2.0, 0, 255, 4, -2.0, -2)

    def test_edges_of_a_width(self):
        for value, how, whole in ((255.5, 0, 255), (254.5, 0, 254), (255.0, 0, 255), (256.0, 0, 255), (254.5, 2, 255),
                                  (-0.5, 1, 0), (-1.0, 0, 0), (0.5, 2, 1), (1.5, 3, 1)):
            for kind in KINDS:
                self.put_out(kind, value, how, 3, 0, float(whole), whole)
        for value, how, whole in ((-128.5, 1, -128), (-128.0, 0, -128), (127.5, 0, 127), (-1.5, 3, -1), (-0.5, 1, -1)):
            for kind in KINDS:
                self.put_out(kind, value, how, 3, 4, float(whole), whole)

    def test_signal_is_rounded(self):
        self.put_out(HALF, 1e300, 0, 8, 1, 65504.0, 65504)
        self.put_out(SINGLE, 1e300, 0, 8, 2, 2.0 ** 32, 2 ** 32 - 1)
        self.put_out(SINGLE, 1e300, 0, 8, 6, 2.0 ** 31, 2 ** 31 - 1)
        self.put_out(SINGLE, 1e300, 0, 8, 7, 2.0 ** 63, 2 ** 63 - 1)
        self.put_out(DOUBLE, 1e300, 0, 8, 3, 2.0 ** 64, 2 ** 64 - 1)
        self.put_out(DOUBLE, -1e300, 0, 8, 7, -(2.0 ** 63), -(2 ** 63))


if __name__ == "__main__":
    unittest.main()
