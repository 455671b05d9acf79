"""Which blocks are as told, row by row, and which constants may be handed in."""

import struct
import unittest

from lines import ABOVE_RANGE, BELOW_RANGE, DOUBLE, GREATEST, HALF, INFINITE, KINDS, LEAST, NEXT, NOT_FINITE, OPEN
from lines import SIGN, SINGLE, answered, block, build

# By row: what's given. The letters of one group are numbers of blocks, those of the other numbers of constants.
ROWS = {
    0: ("", "qr"), 1: ("", "p"), 2: ("ab", ""), 3: ("ab", ""), 4: ("ab", ""), 5: ("ab", ""), 6: ("a", ""),
    7: ("abc", ""), 8: ("abc", ""), 9: ("abc", ""), 10: ("abc", ""), 11: ("ab", ""), 12: ("ab", ""), 13: ("a", ""),
    14: ("a", ""), 15: ("a", "pq"), 16: ("a", "p"), 17: ("a", "p"), 18: ("a", "p"), 19: ("a", "pqr"),
    20: ("a", "p"), 21: ("a", ""), 22: ("a", "pq"), 23: ("ab", ""), 24: ("ab", ""), 25: ("ab", ""),
    26: ("abc", ""), 27: ("ab", ""), 28: ("ab", ""), 29: ("a", ""), 30: ("a", "p"), 31: ("a", "pqr"), 32: ("a", ""),
    33: ("a", "pq"), 34: ("a", "p"), 35: ("a", ""), 36: ("a", ""), 37: ("ab", "p"), 38: ("ab", ""), 39: ("a", ""),
}
# What else a row is given, so that it's as told.
ELSE = {0: {"a": 8, "b": 3}, 34: {"b": 2}, 35: {"p": 0}, 36: {"b": 8, "c": 3, "p": 0}}
HOW_MANY = {30: 5, 34: 4}
# Constants with which each row is as told, from the first on.
CONSTANTS = {15: [-1.0, 1.0], 19: [2.0, -1.0, 1.0], 22: [-1.0, 1.0], 18: [0.5], 34: [0.0, 5.0, 1.0, -5.0]}


def as_told(what, kind, shift=0):
    """What the row is given: block 0, constants from number `shift` on."""
    given = dict(ELSE.get(what, {}))
    sources, constants = ROWS[what]
    given.update({letter: 0 for letter in sources})
    given.update({letter: shift + i for i, letter in enumerate(constants)})
    return given


def constants_for(what):
    count = HOW_MANY.get(what, len(ROWS[what][1]))
    return (CONSTANTS.get(what, []) + [1.0] * 5)[:count]


def built(what, kind, given, constants, others=0):
    """The answer of build: the block asked about first, then some others."""
    blocks = [block(what, kind, **given)] + [block(21, DOUBLE, a=0)] * others
    return answered(OPEN, build(blocks, constants))[1]


class Told(unittest.TestCase):

    def is_told(self, what, kind, given, constants, others=0):
        with self.subTest(what=what, kind=kind, given=given, constants=constants):
            self.assertEqual([1 + others], built(what, kind, given, constants, others))

    def is_not(self, what, kind, given, constants, others=0):
        with self.subTest(what=what, kind=kind, given=given, constants=constants):
            self.assertEqual([-5], built(what, kind, given, constants, others))


class EachRowTest(Told):

    def test_as_told(self):
        for what in ROWS:
            for kind in KINDS:
                self.is_told(what, kind, as_told(what, kind), constants_for(what))
                self.is_told(what, kind, as_told(what, kind, 3), [9.0] * 3 + constants_for(what))

    def test_what_the_table_does_not_name(self):
        for what in ROWS:
            for junk in (ABOVE_RANGE, BELOW_RANGE, -1, 0):
                given = {letter: junk for letter in "abcpqr"}
                given.update(as_told(what, DOUBLE))
                self.is_told(what, DOUBLE, given, constants_for(what))

    def test_what_it_does(self):
        for what in (-1, 40, 41, ABOVE_RANGE, BELOW_RANGE):
            self.is_not(what, DOUBLE, {letter: 0 for letter in "abcpqr"}, [1.0] * 5)

    def test_kind(self):
        for what in ROWS:
            for kind in (-1, 3, ABOVE_RANGE, BELOW_RANGE):
                self.is_not(what, kind, as_told(what, kind), constants_for(what))

    def test_numbers_of_blocks(self):
        for what, (sources, constants) in ROWS.items():
            for letter in sources:
                for number in (0, 1, 4):
                    self.is_told(what, DOUBLE, {**as_told(what, DOUBLE), letter: number}, constants_for(what), 4)
                for number in (-1, 5, 95, 96, ABOVE_RANGE, BELOW_RANGE):
                    self.is_not(what, DOUBLE, {**as_told(what, DOUBLE), letter: number}, constants_for(what), 4)

    def test_numbers_of_constants(self):
        for what, (sources, constants) in ROWS.items():
            count = len(constants_for(what))
            for letter in constants:
                wrong = (-1, -count, count if len(constants) > 1 or count == 1 else 1, 256, ABOVE_RANGE, BELOW_RANGE)
                for number in wrong:
                    self.is_not(what, DOUBLE, {**as_told(what, DOUBLE), letter: number}, constants_for(what))

    def test_no_constants(self):
        for what, (sources, constants) in ROWS.items():
            if constants:
                self.is_not(what, DOUBLE, as_told(what, DOUBLE), [])

    def test_a_wrong_block_behind_right_ones(self):
        right = [block(21, DOUBLE, a=0)] * 3
        for place in range(4):
            blocks = right[:place] + [block(21, DOUBLE, a=4)] + right[place:]
            self.assertEqual([-5], answered(OPEN, build(blocks))[1])


class PlacesTest(Told):

    def test_places(self):
        for width in range(8):
            size = 1 << width % 4
            for place in range(-8, 266):
                right = 0 <= place < 256 and place % size == 0
                ask = self.is_told if right else self.is_not
                ask(0, DOUBLE, {"a": place, "b": width, "q": 0, "r": 0}, [1.0])
                ask(36, DOUBLE, {"a": 0, "b": place, "c": width, "p": 0}, [])
            for place in (BELOW_RANGE, ABOVE_RANGE - 7):
                self.is_not(0, DOUBLE, {"a": place, "b": width, "q": 0, "r": 0}, [1.0])
                self.is_not(36, DOUBLE, {"a": 0, "b": place, "c": width, "p": 0}, [])

    def test_widths(self):
        for width in (BELOW_RANGE, -1, 8, 9, ABOVE_RANGE):
            self.is_not(0, DOUBLE, {"a": 0, "b": width, "q": 0, "r": 0}, [1.0])
            self.is_not(36, DOUBLE, {"a": 0, "b": 0, "c": width, "p": 0}, [])

    def test_how(self):
        for how in (0, 1, 2, 3):
            self.is_told(35, DOUBLE, {"a": 0, "p": how}, [])
            self.is_told(36, DOUBLE, {"a": 0, "b": 0, "c": 0, "p": how}, [])
        for how in (BELOW_RANGE, -1, 4, ABOVE_RANGE):
            self.is_not(35, DOUBLE, {"a": 0, "p": how}, [1.0] * 5)
            self.is_not(36, DOUBLE, {"a": 0, "b": 0, "c": 0, "p": how}, [1.0] * 5)


class LimitsTest(Told):

    def test_p_not_above_q(self):
        for what in (15, 22):
            for kind in KINDS:
                e, g, d = NEXT[kind], GREATEST[kind], LEAST[kind]
                given = {"a": 0, "p": 0, "q": 1}
                for constants in ([1.0, 1.0], [-1.0, 1.0], [1.0, 1 + e], [-g, g], [0.0, d], [-0.0, 0.0], [0.0, -0.0]):
                    self.is_told(what, kind, given, constants)
                for constants in ([1.0, -1.0], [1 + e, 1.0], [g, -g], [d, 0.0], [0.0, -d]):
                    self.is_not(what, kind, given, constants)

    def test_p_not_below_0(self):
        for what, given in ((16, {"a": 0, "p": 0}), (17, {"a": 0, "p": 0}), (37, {"a": 0, "b": 0, "p": 0})):
            for kind in KINDS:
                for p in (0.0, -0.0, LEAST[kind], GREATEST[kind], 1e300):
                    self.is_told(what, kind, given, [p])
                for p in (-LEAST[kind], -1.0, -1e300):
                    self.is_not(what, kind, given, [p])

    def test_p_from_0_to_1(self):
        for kind in KINDS:
            for p in (0.0, -0.0, LEAST[kind], 0.5, 1.0, 1 - NEXT[kind] / 2):
                self.is_told(18, kind, {"a": 0, "p": 0}, [p])
            for p in (-LEAST[kind], 1 + NEXT[kind], 2.0, -1.0, 1e300):
                self.is_not(18, kind, {"a": 0, "p": 0}, [p])

    def test_integral(self):
        given = {"a": 0, "p": 0, "q": 1, "r": 2}
        for kind in KINDS:
            d = LEAST[kind]
            for constants in ([-3.0, -1.0, 1.0], [0.0, 0.0, 0.0], [1.0, -0.0, -0.0], [1.0, -d, d],
                              [1.0, -1e300, 1e300]):
                self.is_told(19, kind, given, constants)
            for constants in ([1.0, d, 1.0], [1.0, -1.0, -d], [1.0, 1.0, -1.0], [1.0, 1.0, 2.0], [1.0, -2.0, -1.0]):
                self.is_not(19, kind, given, constants)

    def test_kalman(self):
        given = {"a": 0, "p": 0, "q": 1}
        for kind in KINDS:
            d = LEAST[kind]
            for constants in ([0.0, 0.0], [-0.0, -0.0], [d, 0.0], [1.0, 2.0], [2.0, 1.0]):
                self.is_told(33, kind, given, constants)
            for constants in ([-d, 1.0], [1.0, -d], [-1.0, -1.0]):
                self.is_not(33, kind, given, constants)

    def test_no_other_row_asks_for_an_order(self):
        for what in (0, 1, 20, 30, 31):
            for constants in ([1.0, -1.0, 1.0, -1.0, 1.0], [-1.0, 1.0, -1.0, 1.0, -1.0], [-1.0] * 5):
                self.is_told(what, DOUBLE, as_told(what, DOUBLE), constants)

    def test_constants_are_rounded_first(self):
        above, below = 1 + 2.0 ** -40, 1 - 2.0 ** -40
        for kind in (HALF, SINGLE):
            self.is_told(15, kind, {"a": 0, "p": 0, "q": 1}, [above, below])
            self.is_told(22, kind, {"a": 0, "p": 0, "q": 1}, [above, below])
            self.is_told(16, kind, {"a": 0, "p": 0}, [-1e-300])
            self.is_told(17, kind, {"a": 0, "p": 0}, [-1e-300])
            self.is_told(37, kind, {"a": 0, "b": 0, "p": 0}, [-1e-300])
            self.is_told(18, kind, {"a": 0, "p": 0}, [above])
            self.is_told(18, kind, {"a": 0, "p": 0}, [-1e-300])
            self.is_told(19, kind, {"a": 0, "p": 0, "q": 1, "r": 2}, [1.0, 1e-300, -1e-300])
            self.is_told(33, kind, {"a": 0, "p": 0, "q": 0}, [-1e-300])
            self.is_not(34, kind, {"a": 0, "b": 2, "p": 0}, [below, 0.0, above, 0.0])
        self.is_not(15, DOUBLE, {"a": 0, "p": 0, "q": 1}, [above, below])
        self.is_not(16, DOUBLE, {"a": 0, "p": 0}, [-1e-300])
        self.is_told(34, DOUBLE, {"a": 0, "b": 2, "p": 0}, [below, 0.0, above, 0.0])


class FilterTest(Told):

    def test_five_constants(self):
        for k, p, right in ((5, 0, True), (6, 1, True), (256, 251, True), (256, 0, True), (4, 0, False), (5, 1, False),
                            (256, 252, False), (256, 255, False), (5, -1, False), (9, -5, False), (0, 0, False)):
            ask = self.is_told if right else self.is_not
            ask(30, DOUBLE, {"a": 0, "p": p}, [1.0] * k)


class CurveTest(Told):

    def test_how_many_points(self):
        rising = [float(i) for i in range(256)]
        for b in (1, 2, 63, 64):
            self.is_told(34, DOUBLE, {"a": 0, "b": b, "p": 0}, rising)
            self.is_told(34, DOUBLE, {"a": 0, "b": b, "p": 256 - 2 * b}, rising)
            self.is_told(34, DOUBLE, {"a": 0, "b": b, "p": 0}, rising[:2 * b])
            self.is_not(34, DOUBLE, {"a": 0, "b": b, "p": 0}, rising[:2 * b - 1])
            self.is_not(34, DOUBLE, {"a": 0, "b": b, "p": 257 - 2 * b}, rising)
            self.is_not(34, DOUBLE, {"a": 0, "b": b, "p": -1}, rising)
        for b in (BELOW_RANGE, -1, 0, 65, 128, ABOVE_RANGE):
            self.is_not(34, DOUBLE, {"a": 0, "b": b, "p": 0}, rising)

    def test_each_x_is_below_the_next(self):
        for kind in KINDS:
            e = NEXT[kind]
            for xs in ([0.0], [0.0, 1.0], [-1.0, 0.0, LEAST[kind]], [1.0, 1 + e, 1 + 2 * e], [-2.0, -1.0, 5.0]):
                points = [number for x in xs for number in (x, 7.0 - x)]
                self.is_told(34, kind, {"a": 0, "b": len(xs), "p": 1}, [9.0] + points)
            for xs in ([0.0, 0.0], [0.0, -0.0], [1.0, 0.0], [0.0, 1.0, 1.0], [0.0, 1.0, 0.5], [1 + e, 1.0, 2.0]):
                points = [number for x in xs for number in (x, 7.0)]
                self.is_not(34, kind, {"a": 0, "b": len(xs), "p": 1}, [9.0] + points)

    def test_points_past_b_are_not_looked_at(self):
        self.is_told(34, DOUBLE, {"a": 0, "b": 2, "p": 0}, [0.0, 1.0, 1.0, 1.0, 0.0, 1.0])
        self.is_not(34, DOUBLE, {"a": 0, "b": 3, "p": 0}, [0.0, 1.0, 1.0, 1.0, 0.0, 1.0])


class FiniteTest(unittest.TestCase):

    def test_constants_that_are_not_finite(self):
        for wrong in NOT_FINITE:
            for place in (0, 1, 255):
                constants = [0] * 256
                constants[place] = wrong
                told = answered(OPEN, build([block(1, HALF, p=3)], constants))
                self.assertEqual([-5], told[1])

    def test_constants_that_are_finite(self):
        for right in (0, 1, SIGN, INFINITE - 1, SIGN + INFINITE - 1, (1 << 52) - 1, 1 << 52):
            self.assertEqual([1], answered(OPEN, build([block(1, HALF, p=0)], [right]))[1])
        self.assertEqual(INFINITE - 1, struct.unpack("<Q", struct.pack("<d", GREATEST[DOUBLE]))[0])


if __name__ == "__main__":
    unittest.main()
