"""whole: each how and each width in each kind, what's past a width's ends, its refusals."""

import unittest

from lines import ABOVE_RANGE, BELOW_RANGE, DOUBLE, GREATEST, HALF, INFINITE, KINDS, LEAST, NEXT, NOT_FINITE
from lines import NO_NUMBER, OPEN, SINGLE, answered, block, build, whole_call

NEAREST, DOWN, UP, TOWARDS_0 = range(4)


def ends(width):
    """How many bytes a width has, its least and its greatest whole number."""
    size = 1 << width % 4
    if width < 4:
        return size, 0, (1 << 8 * size) - 1
    return size, -(1 << 8 * size - 1), (1 << 8 * size - 1) - 1


class WholeTest(unittest.TestCase):

    def is_whole(self, kind, how, width, x, whole):
        size, low, high = ends(width)
        some = list((whole % (1 << 8 * size)).to_bytes(size, "little"))
        with self.subTest(kind=kind, how=how, width=width, x=x):
            self.assertEqual([[0] + some], answered(whole_call(kind, how, width, x)))

    def test_each_how(self):
        values = (2.5, 3.5, 1.25, 1.75, 0.5, 0.0, -0.0, -0.5, -1.5, -2.5, -1.25, -1.75, 7.0, -7.0, 0.25, -0.25, 0.75)
        told = {
            NEAREST: (2, 4, 1, 2, 0, 0, 0, 0, -2, -2, -1, -2, 7, -7, 0, 0, 1),
            DOWN: (2, 3, 1, 1, 0, 0, 0, -1, -2, -3, -2, -2, 7, -7, 0, -1, 0),
            UP: (3, 4, 2, 2, 1, 0, 0, 0, -1, -2, -1, -1, 7, -7, 1, 0, 1),
            TOWARDS_0: (2, 3, 1, 1, 0, 0, 0, 0, -1, -2, -1, -1, 7, -7, 0, 0, 0),
        }
        for how, wholes in told.items():
            for kind in KINDS:
                for x, whole in zip(values, wholes):
                    for width in range(8):
                        self.is_whole(kind, how, width, x, whole if width > 3 else max(0, whole))

    def test_least_numbers(self):
        for kind in KINDS:
            d = LEAST[kind]
            for how, up, down in ((NEAREST, 0, 0), (DOWN, 0, -1), (UP, 1, 0), (TOWARDS_0, 0, 0)):
                for width in range(8):
                    self.is_whole(kind, how, width, d, up)
                    self.is_whole(kind, how, width, -d, down if width > 3 else 0)
            self.is_whole(kind, NEAREST, 4, 0.5 + NEXT[kind] / 2, 1)
            self.is_whole(kind, NEAREST, 4, 0.5 - NEXT[kind] / 4, 0)

    def test_ends_of_a_width(self):
        for width in range(8):
            low, high = ends(width)[1:]
            for kind in KINDS:
                if width % 4 == 0:
                    for whole in range(low - 3, high + 4):
                        self.is_whole(kind, NEAREST, width, float(whole), min(high, max(low, whole)))
                self.is_whole(kind, NEAREST, width, -GREATEST[kind], max(low, -int(GREATEST[kind])))
                self.is_whole(kind, NEAREST, width, GREATEST[kind], min(high, int(GREATEST[kind])))
                self.is_whole(kind, UP, width, -1e300, max(low, -int(GREATEST[kind])))
                self.is_whole(kind, DOWN, width, 1e300, min(high, int(GREATEST[kind])))
            if width % 4 < 3:
                for how, up in ((NEAREST, 0), (DOWN, 0), (UP, 1), (TOWARDS_0, 0)):
                    self.is_whole(DOUBLE, how, width, high - 0.75, high - 1 + up)
                    self.is_whole(DOUBLE, how, width, high + 0.25, high)
                    self.is_whole(DOUBLE, how, width, low - 0.25, low)
                self.is_whole(DOUBLE, NEAREST, width, high + 0.5, high)
                self.is_whole(DOUBLE, UP, width, float(high), high)
                self.is_whole(DOUBLE, UP, width, high + 1.0, high)
                self.is_whole(DOUBLE, DOWN, width, low - 1.0, low)

    def test_ends_of_eight_bytes(self):
        self.is_whole(DOUBLE, NEAREST, 3, 2.0 ** 64, 2 ** 64 - 1)
        self.is_whole(DOUBLE, NEAREST, 3, 2.0 ** 64 - 2048, 2 ** 64 - 2048)
        self.is_whole(DOUBLE, NEAREST, 7, 2.0 ** 63, 2 ** 63 - 1)
        self.is_whole(DOUBLE, NEAREST, 7, 2.0 ** 63 - 1024, 2 ** 63 - 1024)
        self.is_whole(DOUBLE, NEAREST, 7, -(2.0 ** 63), -(2 ** 63))
        self.is_whole(DOUBLE, NEAREST, 7, -(2.0 ** 63) - 2048, -(2 ** 63))
        self.is_whole(SINGLE, NEAREST, 7, -(2.0 ** 63), -(2 ** 63))
        self.is_whole(SINGLE, NEAREST, 3, 2.0 ** 64 - 2048, 2 ** 64 - 1)

    def test_lowest_byte_first(self):
        self.assertEqual([[0, 0x34, 0x12]], answered(whole_call(DOUBLE, NEAREST, 1, float(0x1234))))
        self.assertEqual([[0, 0x78, 0x56, 0x34, 0x12]], answered(whole_call(DOUBLE, NEAREST, 6, float(0x12345678))))
        self.assertEqual([[0, 0xFE, 0xFF]], answered(whole_call(DOUBLE, NEAREST, 5, -2.0)))
        self.assertEqual([[0, 5, 0, 0, 0, 0, 0, 0, 0]], answered(whole_call(DOUBLE, NEAREST, 3, 5.0)))
        self.assertEqual([[0, 5]], answered(whole_call(DOUBLE, NEAREST, 0, 5.0)))

    def test_rounded_to_the_kind_first(self):
        for width in (1, 2, 3, 5, 6, 7):
            self.is_whole(HALF, NEAREST, width, 2049.0, 2048)
            self.is_whole(HALF, UP, width, 2049.0, 2048)
            self.is_whole(HALF, DOWN, width, 2051.0, 2052)
            self.is_whole(SINGLE, DOWN, width, 2051.0, 2051)
            self.is_whole(HALF, UP, width, 1 + 2.0 ** -11, 1)
            self.is_whole(SINGLE, UP, width, 1 + 2.0 ** -11, 2)
            self.is_whole(SINGLE, UP, width, 1 + 2.0 ** -24, 1)
            self.is_whole(DOUBLE, UP, width, 1 + 2.0 ** -24, 2)
            self.is_whole(HALF, DOWN, width, 2 - 2.0 ** -12, 2)
            self.is_whole(DOUBLE, DOWN, width, 2 - 2.0 ** -52, 1)
        for kind in (HALF, SINGLE):
            self.is_whole(kind, UP, 0, 1e-300, 0)
            self.is_whole(kind, DOWN, 4, -1e-300, 0)
        self.is_whole(DOUBLE, UP, 0, 1e-300, 1)
        self.is_whole(DOUBLE, DOWN, 4, -1e-300, -1)
        # Past the greatest half, within the width.
        self.is_whole(HALF, NEAREST, 1, 65535.0, 65504)
        self.is_whole(HALF, NEAREST, 6, -1e9, -65504)
        self.is_whole(SINGLE, NEAREST, 2, 2.0 ** 32 - 1, 2 ** 32 - 1)
        self.is_whole(SINGLE, NEAREST, 6, 2.0 ** 31 - 100, 2 ** 31 - 128)

    def test_anywhere_in_a_line(self):
        five = whole_call(DOUBLE, NEAREST, 5, 5.0)
        self.assertEqual([[0, 5, 0]] * 100, answered(*[five] * 100))
        told = answered(OPEN, five, build([block(39, DOUBLE, a=0)]), five, OPEN, five)
        self.assertEqual([[0], [0, 5, 0], [1], [0, 5, 0], [0], [0, 5, 0]], told)


class RefusalTest(unittest.TestCase):

    def test_kind_how_and_width(self):
        for x in (1.0, INFINITE, NO_NUMBER):
            for wrong in (BELOW_RANGE, -1, 3, ABOVE_RANGE):
                self.assertEqual([[-2]], answered(whole_call(wrong, NEAREST, 0, x)))
            for wrong in (BELOW_RANGE, -1, 4, ABOVE_RANGE):
                self.assertEqual([[-2]], answered(whole_call(DOUBLE, wrong, 0, x)))
            for wrong in (BELOW_RANGE, -1, 8, 9, ABOVE_RANGE):
                self.assertEqual([[-2]], answered(whole_call(DOUBLE, NEAREST, wrong, x)))

    def test_not_finite(self):
        for kind in KINDS:
            for how in range(4):
                for width in range(8):
                    for wrong in NOT_FINITE:
                        self.assertEqual([[-5]], answered(whole_call(kind, how, width, wrong)))


if __name__ == "__main__":
    unittest.main()
