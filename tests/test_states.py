"""state and put: each block's signal, s and t told, brought in, and gone on from."""

import unittest

from lines import ABOVE_RANGE, BELOW_RANGE, DOUBLE, GREATEST, HALF, INFINITE, KINDS, LEAST, NEXT, NOT_FINITE
from lines import NO_NUMBER, OPEN, SIGN, SINGLE, answered, bits, block, build, every_row, fleet, patterns, put
from lines import record, records_of, reset, run, seen, signal, state, tick
from model import Model

EMPTY = record()
TWO = build([block(21, DOUBLE, a=1), block(2, DOUBLE, a=0, b=1)])
# Rows whose signal, s and t may be any numbers of the kind, with what each is given; then the two others.
FREE = {2: {"a": 0, "b": 0}, 21: {"a": 0}, 23: {"a": 0, "b": 0}, 18: {"a": 0, "p": 0}, 15: {"a": 0, "p": 0, "q": 0},
        30: {"a": 0, "p": 0}, 36: {"a": 0, "b": 0, "c": 0, "p": 0}, 32: {"a": 0}, 39: {"a": 0}, 1: {"p": 0},
        19: {"a": 0, "p": 0, "q": 1, "r": 1}, 37: {"a": 0, "b": 0, "p": 0}}
RELAY = {"a": 0, "p": 0, "q": 0}
KALMAN = {"a": 0, "p": 0, "q": 0}
CONSTANTS = [1.0, 0.0, 0.5, 0.5, 0.5]


def put_answer(what, kind, given, values):
    """What put answers to one block's signal, s and t; the state behind it is looked at, too."""
    told = answered(OPEN, build([block(what, kind, **given)], CONSTANTS), put(0, values), state(0, 1))
    if told[2] == [1]:
        wanted = [number % SIGN if number == SIGN else number for number in patterns(*values)]
    else:
        wanted = [0, 0, 0]
    assert told[3] == [1] + wanted, (told, values)
    return told[2]


class StateTest(unittest.TestCase):

    def test_as_at_first(self):
        for calls in ([TWO], [TWO, tick([EMPTY]), put(0, [5.0] * 6), reset(0)], [TWO, put(0, [5.0] * 6), TWO],
                      [TWO, put(0, [5.0] * 6), fleet(1)], [put(0, [5.0] * 6), TWO]):
            self.assertEqual([2] + [0] * 6, answered(OPEN, *calls, state(0, 2))[-1])

    def test_each_row_in_each_kind(self):
        for kind in KINDS:
            blocks, constants = every_row(kind)
            n = len(blocks)
            model = Model(blocks, constants)
            ticks = [record((0, [t * 37 % 256, t * 91 % 256, t, 0])) for t in range(1, 6)]
            told = answered(OPEN, build(blocks, constants), *[call for one in ticks for call in (
                run(0, [one]), state(0, n))])
            for t, one in enumerate(ticks):
                model.tick(one)
                with self.subTest(kind=kind, t=t):
                    self.assertEqual([n] + model.state(), told[3 + 2 * t])

    def test_signal_s_and_t_in_their_order(self):
        # The filter's s is 3 a behind the first tick, its t 5 a.
        scheme = build([block(1, DOUBLE, p=0), block(30, DOUBLE, a=0, p=1)], [1.0, 2.0, 3.0, 5.0, 0.0, 0.0])
        told = answered(OPEN, scheme, run(0, [EMPTY]), state(0, 2))
        self.assertEqual([2] + patterns(1.0, 0.0, 0.0, 2.0, 3.0, 5.0), told[3])

    def test_96_blocks(self):
        values = [float(i) for i in range(288)]
        told = answered(OPEN, build([block(39, DOUBLE, a=0)] * 96), state(0, 96), put(0, values), state(0, 96))
        self.assertEqual([[96] + [0] * 288, [96], [96] + patterns(*values)], told[2:])


class PutTest(unittest.TestCase):

    def test_told_as_it_was_put(self):
        for kind in KINDS:
            e, g, d = NEXT[kind], GREATEST[kind], LEAST[kind]
            values = [0.0, -0.0, 1.0, 1 + e, 1 - e / 2, d, 3 * d, d / e, d / e - d, d / e + d, g, g / 2, 0.375]
            values += [-x for x in values]
            for what, given in FREE.items():
                for value in values:
                    for three in ((value, 0.0, 0.0), (0.0, value, 0.0), (0.0, 0.0, value), (value, value, value)):
                        self.assertEqual([1], put_answer(what, kind, given, three), (what, kind, three))

    def test_negative_zero_is_told_as_plus_zero(self):
        for what, given in (*FREE.items(), (22, RELAY), (33, KALMAN)):
            for kind in KINDS:
                told = answered(OPEN, build([block(what, kind, **given)], CONSTANTS), put(0, [-0.0, SIGN, -0.0]),
                                state(0, 1), signal(0, 0))
                self.assertEqual([[1], [1, 0, 0, 0], [0, 0]], told[2:])

    def test_not_of_the_kind(self):
        wrong = {
            HALF: [1 + NEXT[HALF] / 2, 0.1, 65520.0, 65536.0, 65504.5, 2049.0, LEAST[HALF] / 2, 1.5 * LEAST[HALF],
                   1e300, 2.0 ** -1074, 1.0 + 2.0 ** -52, 1023.5 * LEAST[HALF]],
            SINGLE: [1 + NEXT[SINGLE] / 2, 0.1, 2.0 ** 128, 16777217.0, LEAST[SINGLE] / 2, 1.5 * LEAST[SINGLE], 1e300,
                     2.0 ** -1074, 1.0 + 2.0 ** -52, 3.4028235677973366e38],
        }
        for kind, values in wrong.items():
            for what, given in FREE.items():
                for value in values:
                    for x in (value, -value):
                        for three in ((x, 0.0, 0.0), (0.0, x, 0.0), (0.0, 0.0, x)):
                            self.assertEqual([-5], put_answer(what, kind, given, three), (what, kind, three))
            for value in values:
                self.assertEqual([1], put_answer(2, DOUBLE, FREE[2], (value, -value, value)))
        self.assertEqual([1], put_answer(2, SINGLE, FREE[2], (65520.0, 2049.0, 2.0 ** -25)))

    def test_not_finite(self):
        for what, given in (*FREE.items(), (22, RELAY), (33, KALMAN)):
            for kind in KINDS:
                for wrong in NOT_FINITE:
                    for three in ((wrong, 0.0, 0.0), (0.0, wrong, 0.0), (0.0, 0.0, wrong)):
                        self.assertEqual([-5], put_answer(what, kind, given, three))

    def test_relay(self):
        for kind in KINDS:
            d, g, e = LEAST[kind], GREATEST[kind], NEXT[kind]
            for right in (0.0, -0.0, 1.0):
                for other in (0.0, 0.5, -1.0, g, -d):
                    self.assertEqual([1], put_answer(22, kind, RELAY, (right, other, -other)))
            for wrong in (0.5, -1.0, 2.0, d, -d, 1 + e, 1 - e / 2, g, -g):
                self.assertEqual([-5], put_answer(22, kind, RELAY, (wrong, 0.0, 0.0)))

    def test_kalman(self):
        for kind in KINDS:
            d, g = LEAST[kind], GREATEST[kind]
            for s in (0.0, -0.0, d, 1.0, g):
                for other in (0.0, 1.0, -1.0, g, -g, -d):
                    self.assertEqual([1], put_answer(33, kind, KALMAN, (other, s, -other)))
            for s in (-d, -1.0, -g):
                self.assertEqual([-5], put_answer(33, kind, KALMAN, (0.0, s, 0.0)))

    def test_each_block_has_its_own_kind_and_row(self):
        scheme = build([block(2, HALF, a=0, b=0), block(2, DOUBLE, a=0, b=0), block(22, SINGLE, **RELAY),
                        block(33, SINGLE, **KALMAN), block(2, SINGLE, a=0, b=0)], CONSTANTS)
        right = [0.5, 1.5, 2.5, 0.1, 1e300, -0.1, 1.0, -7.0, 8.0, -3.0, 3.0, -3.0, 2.0, -2.0, 16777215.0]
        told = answered(OPEN, scheme, put(0, right), state(0, 5))
        self.assertEqual([[5], [5] + patterns(*right)], told[2:])
        for i, wrong in ((0, 0.1), (1, 1e300), (2, 65520.0), (6, -7.0), (6, 0.5), (7, 0.1), (10, -3.0), (11, 1e300),
                         (12, 0.1), (13, 2.0 ** 128), (14, 16777217.0), (3, INFINITE), (14, NO_NUMBER)):
            values = list(right)
            values[i] = wrong
            with self.subTest(i=i, wrong=wrong):
                told = answered(OPEN, scheme, put(0, values), state(0, 5), put(0, right), put(0, values), state(0, 5))
                self.assertEqual([[-5], [5] + [0] * 15, [5], [-5], [5] + patterns(*right)], told[2:])

    def test_n_of_another_scheme(self):
        for n in (1, 3, 95, 96):
            told = answered(OPEN, TWO, put(0, [1.0] * 6), tick([EMPTY]), state(0, 2), put(0, [2.0] * 3 * n),
                            state(0, n), state(0, 2), seen(0, 0))
            self.assertEqual([[-4], [-4]], told[5:7])
            self.assertEqual(told[4], told[7])
            self.assertEqual([0, bits(1.0), bits(1.0)], told[8])

    def test_only_that_craft(self):
        told = answered(OPEN, fleet(3), TWO, put(1, [1.0, 2.0, 3.0, 4.0, 5.0, 6.0]), *[state(i, 2) for i in range(3)])
        self.assertEqual([[2] + [0] * 6, [2] + patterns(1.0, 2.0, 3.0, 4.0, 5.0, 6.0), [2] + [0] * 6], told[4:])

    def test_refused_changes_nothing(self):
        right = [1.0, 2.0, 3.0, 4.0, 5.0, 6.0]
        refused = [(put(0, [9.0] * 5 + [INFINITE]), -5), (put(0, [NO_NUMBER] + [9.0] * 5), -5), (put(0, [9.0] * 3), -4),
                   (put(0, [9.0] * 9), -4), (put(1, [9.0] * 6), -2), (put(-1, [9.0] * 6), -2), (put(0, [], 0), -2),
                   (put(0, [], 97), -2), (state(0, 1), -4), (state(1, 2), -2)]
        for call, refusal in refused:
            told = answered(OPEN, TWO, put(0, right), call, state(0, 2), tick([EMPTY]), state(0, 2), call, seen(0, 1),
                            state(0, 2), tick([EMPTY]), state(0, 2))
            with self.subTest(call=call):
                self.assertEqual([[refusal]] * 2, told[3::4][:2])
                self.assertEqual([2] + patterns(*right), told[4])
                self.assertEqual([2] + patterns(2.0, 4.0, 3.0, 6.0, 5.0, 6.0), told[6])
                self.assertEqual([[0, bits(6.0), bits(6.0)], told[6]], told[8:10])
                self.assertEqual([2] + patterns(4.0, 6.0, 3.0, 10.0, 5.0, 6.0), told[11])


class GoneOnTest(unittest.TestCase):
    """Ticks behind put take the old signal, s and t that were put."""

    def behind(self, kind, what, given, constants, a, three, b=0.0):
        """Signal, s and t behind a tick of a block whose a and b are these; its signal, s and t were put."""
        values = [*map(float, constants), a, b]
        k = len(constants)
        given = {**{letter: i for i, letter in enumerate("ab")}, **given}
        blocks = [block(1, kind, p=k), block(1, kind, p=k + 1), block(what, kind, **given)]
        told = answered(OPEN, build(blocks, values), put(0, [0.0] * 6 + list(three)), run(0, [EMPTY]), state(0, 3))
        self.assertEqual([3], told[2])
        return told[4][7:]

    def goes(self, what, given, constants, a, three, wanted, b=0.0, kinds=KINDS):
        for kind in kinds:
            with self.subTest(kind=kind, what=what, three=three):
                self.assertEqual(patterns(*wanted), self.behind(kind, what, given, constants, a, three, b))

    def test_slew(self):
        self.goes(17, {"p": 0}, [0.5], 9.0, (4.0, 7.0, 8.0), (4.5, 7.0, 8.0))
        self.goes(17, {"p": 0}, [0.5], -9.0, (4.0, 7.0, 8.0), (3.5, 7.0, 8.0))
        self.goes(17, {"p": 0}, [0.5], 4.25, (4.0, 7.0, 8.0), (4.25, 7.0, 8.0))

    def test_lag(self):
        self.goes(18, {"p": 0}, [0.25], 0.0, (4.0, 7.0, 8.0), (3.0, 7.0, 8.0))

    def test_integral(self):
        self.goes(19, {"p": 0, "q": 1, "r": 2}, [2.0, -8.0, 8.0], 1.5, (4.0, 7.0, 8.0), (7.0, 7.0, 8.0))
        # What was put may be past the limits; the next signal isn't.
        self.goes(19, {"p": 0, "q": 1, "r": 2}, [2.0, -8.0, 8.0], 0.0, (99.0, 7.0, 8.0), (8.0, 7.0, 8.0))

    def test_slope(self):
        self.goes(20, {"p": 0}, [2.0], 1.5, (4.0, 7.0, 8.0), (-11.0, 1.5, 8.0))

    def test_delay(self):
        self.goes(21, {}, [], 1.5, (4.0, 7.0, 8.0), (7.0, 1.5, 8.0))

    def test_relay(self):
        for a, old, wanted in ((0.0, 1.0, 1.0), (0.0, 0.0, 0.0), (2.0, 0.0, 1.0), (-2.0, 1.0, 0.0)):
            self.goes(22, {"p": 0, "q": 1}, [-1.0, 1.0], a, (old, 7.0, 8.0), (wanted, 7.0, 8.0))

    def test_filter(self):
        # y is 2 + 7 = 9; s is 3 + 8 - 9 = 2; t is 5 - 4.5.
        self.goes(30, {"p": 0}, [2.0, 3.0, 5.0, 1.0, 0.5], 1.0, (4.0, 7.0, 8.0), (9.0, 2.0, 0.5))

    def test_tracker(self):
        # m is 3.5 + 4 = 7.5; e is -6; the signal is -1.5 + 7.5, s is -3 + 7.
        self.goes(31, {"p": 0, "q": 1, "r": 0}, [0.5, 0.25], 1.5, (4.0, 7.0, 8.0), (6.0, 4.0, 8.0))

    def test_kept_s(self):
        for kind in KINDS:
            # Block 0 and 2 name no s, block 1 takes the s of the first, block 3 its own, block 4 a later one's.
            blocks = [block(1, kind, p=0), block(32, kind, a=0), block(1, kind, p=0), block(32, kind, a=3),
                      block(32, kind, a=5), block(21, kind, a=0)]
            values = [0.0, 1.5, 9.0, 0.0, 2.5, 9.0, 0.0, 3.5, 9.0, 0.0, 4.5, 9.0, 0.0, 5.5, 9.0, 0.0, 6.5, 9.0]
            told = answered(OPEN, build(blocks, [1.0]), put(0, values), run(0, [EMPTY]), state(0, 6))
            self.assertEqual([6] + patterns(1.0, 1.5, 9.0, 1.5, 2.5, 9.0, 1.0, 3.5, 9.0, 4.5, 4.5, 9.0, 6.5, 5.5, 9.0,
                                            6.5, 1.0, 9.0), told[4])

    def test_kept_s_of_another_kind(self):
        blocks = [block(39, DOUBLE, a=0), block(32, HALF, a=0), block(32, SINGLE, a=0)]
        told = answered(OPEN, build(blocks), put(0, [0.0, 0.1, 0.0] + [0.0] * 6), run(0, [EMPTY]), signal(0, 1),
                        signal(0, 2))
        self.assertEqual([[0, bits(0.0999755859375)], [0, bits(0.10000000149011612)]], told[4:])

    def test_kalman(self):
        # v is 2 + 1 = 3; g is 3/4; the signal is 3/4 (0 - 4) + 4; s is 3 - 9/4.
        self.goes(33, {"p": 0, "q": 0}, [1.0], 0.0, (4.0, 2.0, 8.0), (1.0, 0.75, 8.0))
        for kind in KINDS:
            g = GREATEST[kind]
            # v is the greatest; so is v + q: g is 1.
            self.assertEqual(patterns(1.0, 0.0, 8.0),
                             self.behind(kind, 33, {"p": 0, "q": 0}, [g], 1.0, (4.0, g, 8.0)))

    def test_counter(self):
        given = {"p": 0}
        self.goes(37, given, [90.0], 1.0, (4.0, 7.0, 8.0), (5.0, 7.0, 8.0))
        self.goes(37, given, [90.0], 0.0, (4.0, 7.0, 8.0), (4.0, 7.0, 8.0))
        self.goes(37, given, [90.0], 1.0, (4.0, 7.0, 8.0), (0.0, 7.0, 8.0), b=1.0)
        self.goes(37, given, [90.0], 1.0, (-4.5, 7.0, 8.0), (-3.5, 7.0, 8.0))
        self.goes(37, given, [4.5], 1.0, (4.0, 7.0, 8.0), (4.5, 7.0, 8.0))
        self.goes(37, given, [4.5], 1.0, (90.0, 7.0, 8.0), (4.5, 7.0, 8.0))
        # Where nothing is counted, what was put stays, past p too.
        self.goes(37, given, [4.5], 0.0, (90.0, 7.0, 8.0), (90.0, 7.0, 8.0))

    def test_counter_is_rounded(self):
        for kind in KINDS:
            e, g, d = NEXT[kind], GREATEST[kind], LEAST[kind]
            whole = 2 / e
            for old, wanted in ((whole, whole), (whole - 1, whole), (whole + 2, whole + 4), (whole + 4, whole + 4),
                                (2 * whole, 2 * whole), (g, g), (-g, -g), (-1.0, 0.0), (d, 1.0), (-d, 1.0),
                                (-whole, 1 - whole), (-whole - 2, -whole), (e, 1 + e), (e / 2, 1.0),
                                (1.5 * e, 1 + 2 * e), (-e / 2, 1 - e / 2), (-e / 4, 1.0), (-1 - e, -e), (1 + e, 2.0),
                                (1 + 3 * e, 2 + 4 * e)):
                self.goes(37, {"p": 0}, [g], 1.0, (old, 0.0, 0.0), (wanted, 0.0, 0.0), kinds=(kind,))

    def test_hold(self):
        self.goes(38, {}, [], 1.5, (4.0, 7.0, 8.0), (4.0, 7.0, 8.0))
        self.goes(38, {}, [], 1.5, (4.0, 7.0, 8.0), (1.5, 7.0, 8.0), b=1.0)

    def test_rows_that_keep_nothing_leave_s_and_t(self):
        for kind in KINDS:
            blocks, constants = every_row(kind)
            n = len(blocks)
            values = [1.0, 7.0, 8.0] * n
            told = answered(OPEN, build(blocks, constants), put(0, values), run(0, [EMPTY] * 2), state(0, n))
            after = told[4][1:]
            for i, numbers in enumerate(blocks):
                with self.subTest(kind=kind, what=numbers[0]):
                    if numbers[0] not in (20, 21, 30, 31, 33):
                        self.assertEqual(bits(7.0), after[3 * i + 1])
                    if numbers[0] != 30:
                        self.assertEqual(bits(8.0), after[3 * i + 2])

    def test_signals_of_the_tick_before(self):
        blocks = [block(2, DOUBLE, a=1, b=1), block(2, DOUBLE, a=1, b=0)]
        told = answered(OPEN, build(blocks), put(0, [5.0, 0.0, 0.0, 7.0, 0.0, 0.0]), run(0, [EMPTY]), state(0, 2))
        self.assertEqual([2] + patterns(14.0, 0.0, 0.0, 21.0, 0.0, 0.0), told[4])

    def test_another_craft_goes_on_the_same(self):
        for kind in KINDS:
            blocks, constants = every_row(kind)
            n = len(blocks)
            ticks = [record((0, [t * 37 % 256, t * 91 % 256, t, 0])) for t in range(1, 9)]
            first = answered(OPEN, build(blocks, constants), run(0, ticks[:5]), state(0, n), run(0, ticks[5:]),
                             state(0, n))
            then = answered(OPEN, fleet(2), build(blocks, constants), put(1, first[3][1:]), run(1, ticks[5:]),
                            state(1, n), state(0, n))
            self.assertEqual([n], then[3])
            self.assertEqual(records_of(first[4]), records_of(then[4]))
            self.assertEqual(first[5], then[5])
            self.assertEqual([n] + [0] * 3 * n, then[6])


class RefusalTest(unittest.TestCase):

    def test_out_of_range_first(self):
        for n in (BELOW_RANGE, -1, 0, 97, ABOVE_RANGE):
            told = answered(OPEN, state(0, n), put(0, [], n), TWO, state(0, n), put(0, [], n), state(0, 2))
            self.assertEqual([[-2], [-2], [2], [-2], [-2], [2] + [0] * 6], told[1:])
        for craft in (BELOW_RANGE, -1, 1, 63, 64, ABOVE_RANGE):
            for n in (1, 2):
                wrong = put(craft, [INFINITE] * 3 * n)
                told = answered(OPEN, state(craft, n), wrong, TWO, state(craft, n), wrong, state(0, 2))
                self.assertEqual([[-2], [-2], [2], [-2], [-2], [2] + [0] * 6], told[1:])

    def test_no_scheme_second(self):
        for n in (1, 2, 96):
            told = answered(OPEN, state(0, n), put(0, [1.0] * 3 * n), put(0, [INFINITE] * 3 * n), TWO,
                            put(0, [1.0] * 6), OPEN, state(0, n), put(0, [NO_NUMBER] * 3 * n))
            self.assertEqual([[-3]] * 3 + [[2], [2], [0]] + [[-3]] * 2, told[1:])

    def test_another_n_third(self):
        for n in (1, 3, 96):
            told = answered(OPEN, TWO, state(0, n), put(0, [1.0] * 3 * n), put(0, [INFINITE] * 3 * n), state(0, 2))
            self.assertEqual([[-4]] * 3 + [[2] + [0] * 6], told[2:])

    def test_not_as_told_last(self):
        told = answered(OPEN, TWO, put(0, [INFINITE] * 6), put(0, [1.0] * 6))
        self.assertEqual([[-5], [2]], told[2:])


if __name__ == "__main__":
    unittest.main()
