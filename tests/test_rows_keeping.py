"""Rows of the table that look at the tick before, each in the three kinds, tick by tick."""

import unittest

from lines import Bench, DOUBLE, GREATEST, HALF, KINDS, LEAST, NEXT, SINGLE, block

A = {"a": 1}
AP = {"a": 1, "p": 0}
APQ = {"a": 1, "p": 0, "q": 1}
APQR = {"a": 1, "p": 0, "q": 1, "r": 2}
SMALL = 2.0 ** -30


class TickByTick(Bench):

    def goes(self, what, given, constants, inputs, wanted, kinds=KINDS):
        """Each of constants, inputs, wanted is a list, or a function of a kind's next(1) - 1, greatest and least."""
        for kind in kinds:
            told = [some(NEXT[kind], GREATEST[kind], LEAST[kind]) if callable(some) else some
                    for some in (constants, inputs, wanted)]
            with self.subTest(what=what, kind=kind):
                self.signals_are(kind, what, given, told[1], told[0], told[2])


class SlewTest(TickByTick):

    def test_held_to_a_step(self):
        self.goes(17, AP, [0.5], [[2.0, 2.0, -1.0, -1.0, 0.25, 0.25]], [0.5, 1.0, 0.5, 0.0, 0.25, 0.25])

    def test_no_step(self):
        self.goes(17, AP, [0.0], [[2.0, -2.0]], [0.0, 0.0])

    def test_bounds_are_rounded(self):
        up = lambda e, g, d: [1 + e, 2 + 2 * e, 3 + 4 * e, 4 + 4 * e]
        self.goes(17, AP, lambda e, g, d: [1 + e], [[9.0] * 4], up)
        self.goes(17, AP, lambda e, g, d: [1 + e], [[-9.0] * 4], lambda e, g, d: [-x for x in up(e, g, d)])

    def test_greatest(self):
        self.goes(17, AP, lambda e, g, d: [g], lambda e, g, d: [[g, g, -g, -g]], lambda e, g, d: [g, g, 0.0, -g])


class LagTest(TickByTick):

    def test_goes_a_part_of_the_way(self):
        self.goes(18, AP, [0.5], [[1.0, 1.0, 1.0, -0.125]], [0.5, 0.75, 0.875, 0.375])

    def test_ends_of_p(self):
        self.goes(18, AP, [1.0], [[1.0, -3.0, 0.25]], [1.0, -3.0, 0.25])
        self.goes(18, AP, [0.0], [[1.0, -3.0, 0.25]], [0.0, 0.0, 0.0])

    def test_difference_is_rounded_and_the_rest_held(self):
        self.goes(18, AP, [1.0], lambda e, g, d: [[-1.0, 3 * e / 4]], lambda e, g, d: [-1.0, 3 * e / 4])
        self.goes(18, AP, [0.5], lambda e, g, d: [[-2.0, 3 * e / 4]], lambda e, g, d: [-1.0, e / 2 - 0.5])

    def test_rest_as_one(self):
        # (1 + 2 e)(1 - e / 2) is 1 + 3 e / 2 - e e, nearest to 1 + e; then the difference is -(1 + 2 e), and
        # that product less of 1 + e leaves -e / 2 + e e, where a product rounded by itself would leave 0.
        self.goes(18, AP, lambda e, g, d: [1 - e / 2], lambda e, g, d: [[1 + 2 * e, -e]],
                  lambda e, g, d: [1 + e, -e / 2 + e * e])

    def test_greatest(self):
        self.goes(18, AP, [1.0], lambda e, g, d: [[g, -g, g]], lambda e, g, d: [g, 0.0, g])


class IntegralTest(TickByTick):

    def test_adds_up_and_is_held(self):
        self.goes(19, APQR, [0.5, -1.0, 1.5], [[1.0, 1.0, 2.0, -2.0, -8.0, 1.0]], [0.5, 1.0, 1.5, 0.5, -1.0, -0.5])

    def test_limits_of_zero(self):
        self.goes(19, APQR, [1.0, 0.0, -0.0], [[1.0, -1.0]], [0.0, 0.0])

    def test_as_one(self):
        self.goes(19, APQR, lambda e, g, d: [1 + e, -4.0, 4.0], lambda e, g, d: [[e - 1, 1 - e]],
                  lambda e, g, d: [-1.0, -e * e])


class SlopeTest(TickByTick):

    def test_times_the_difference(self):
        self.goes(20, AP, [2.0], [[1.0, 3.0, 3.0, 0.0]], [2.0, 4.0, 0.0, -6.0])

    def test_difference_is_rounded_first(self):
        self.goes(20, AP, [3.0], lambda e, g, d: [[-1.0, 3 * e / 4]], lambda e, g, d: [-3.0, 3 + 4 * e])

    def test_s_is_rounded_to_the_kind(self):
        self.goes(20, AP, [1.0], [[1 + SMALL, 1.0]], [1.0, 0.0], (HALF,))
        self.goes(20, AP, [1.0], [[1 + SMALL, 1.0]], [1 + SMALL, -SMALL], (DOUBLE,))


class DelayTest(TickByTick):

    def test_a_tick_behind(self):
        self.goes(21, A, [], [[1.5, -2.0, 0.0, 7.0]], [0.0, 1.5, -2.0, 0.0])

    def test_rounded_to_the_kind(self):
        self.goes(21, A, [], [[0.1, 1e300, 1.0]], [0.0, 0.0999755859375, 65504.0], (HALF,))
        self.goes(21, A, [], [[0.1, 1e300, 1.0]], [0.0, 0.10000000149011612, GREATEST[SINGLE]], (SINGLE,))
        self.goes(21, A, [], [[0.1, 1e300, 1.0]], [0.0, 0.1, 1e300], (DOUBLE,))


class RelayTest(TickByTick):

    def test_goes_over_at_its_limits(self):
        self.goes(22, APQ, [-1.0, 1.0], [[1.0, 2.0, 0.0, 1.0, -1.0, -2.0, 0.0, 1.0]], [0, 1, 1, 1, 1, 0, 0, 0])

    def test_one_limit(self):
        self.goes(22, APQ, [1.0, 1.0], lambda e, g, d: [[1.0, 1 + e, 1.0, 1 - e / 2, 1.0]], [0, 1, 1, 0, 0])


class FilterTest(TickByTick):

    def test_five_factors(self):
        self.goes(30, AP, [0.5, 0.25, 0.125, -0.5, 0.25], [[1.0, 0.0, 0.0, 0.0, 0.0, 0.0]],
                  [0.5, 0.5, 0.25, 0.0, -0.0625, -0.03125])

    def test_factors_stand_from_p_on(self):
        self.goes(30, {"a": 1, "p": 2}, [9.0, 9.0, 1.0, 2.0, 3.0, 0.0, 0.0, 9.0], [[1.0, 0.0, 0.0, 1.0]],
                  [1.0, 2.0, 3.0, 1.0])

    def test_signal_is_as_one(self):
        # s is f1 = -1 behind the first tick; then f0 a + s is -e e.
        self.goes(30, AP, lambda e, g, d: [1 + e, -1.0, 0.0, 0.0, 0.0], lambda e, g, d: [[1.0, 1 - e]],
                  lambda e, g, d: [1 + e, -e * e])

    def test_s_is_two_steps_each_as_one(self):
        # f1 a is rounded to 1 + 2 e; less f3 y as one leaves -e e.
        self.goes(30, AP, lambda e, g, d: [1.0, 1 + e, 0.0, 1 + e, 0.0], lambda e, g, d: [[1 + e, 0.0]],
                  lambda e, g, d: [1 + e, -e * e])

    def test_f1_a_and_t_is_as_one(self):
        # t is -1 behind the first tick; f1 a + t is -e e in the second, s in the third.
        self.goes(30, AP, lambda e, g, d: [0.0, 1 + e, -1.0, 0.0, 0.0], lambda e, g, d: [[1.0, 1 - e, 0.0]],
                  lambda e, g, d: [0.0, 1 + e, -e * e])

    def test_product_in_t_is_rounded_first(self):
        # f4 y is rounded to 1 + 2 e, f2 a isn't: t is e e, which is s a tick later and y another one later.
        self.goes(30, AP, lambda e, g, d: [1.0, 0.0, 1 + e, 0.0, 1 + e], lambda e, g, d: [[1 + e, 0.0, 0.0]],
                  lambda e, g, d: [1 + e, 0.0, e * e])


class TrackerTest(TickByTick):

    def test_follows(self):
        self.goes(31, APQR, [1.0, 0.5, 0.25], [[1.0, 1.0, 1.0]], [0.5, 0.875, 1.09375])

    def test_middle_is_as_one(self):
        # s is 1 - e, old -1: m is (1 - e)(1 + e) - 1, and the error -m.
        self.goes(31, APQR, lambda e, g, d: [1 + e, -1.0, 1 - e], lambda e, g, d: [[1.0, 0.0]],
                  lambda e, g, d: [-1.0, -2 * e * e])

    def test_error_is_rounded(self):
        self.goes(31, APQR, [0.0, 1.0, 0.0], lambda e, g, d: [[-1.0, 3 * e / 4]], lambda e, g, d: [-1.0, e])

    def test_signal_is_as_one(self):
        # m is -1 in the second tick, the error 1 - e.
        self.goes(31, APQR, lambda e, g, d: [e, 1 + e, -1.0], lambda e, g, d: [[-1.0, -e]],
                  lambda e, g, d: [-1 - e, -e * e])

    def test_s_is_as_one(self):
        # In the second tick s is -1 - e and the error e - 1: s comes to (1 + e)(1 - e) - 1 - e.
        for kind in KINDS:
            e = NEXT[kind]
            blocks = [block(31, kind, a=1, p=0, q=1, r=2), block(32, kind, a=2)]
            wanted = [(0, [0.0, -1 - e]), (1, [-1 - e, -e - e * e])]
            self.blocks_are(blocks, [[1.0, -2.0]], [1.0, 0.0, -1 - e], wanted)


class KeptTest(Bench):

    def test_earlier_own_and_later(self):
        for kind in KINDS:
            # Blocks 2 to 6: the delays are 2 and 6, between them the s of an earlier, the own and a later block.
            blocks = [block(21, kind, a=1), block(32, kind, a=2), block(32, kind, a=4), block(32, kind, a=6),
                      block(21, kind, a=1)]
            wanted = [(0, [0, 1.5, -2]), (1, [1.5, -2, 7]), (2, [0, 0, 0]), (3, [0, 1.5, -2]), (4, [0, 1.5, -2])]
            with self.subTest(kind=kind):
                self.blocks_are(blocks, [[1.5, -2.0, 7.0]], [], wanted)

    def test_rounded_to_the_kind(self):
        blocks = [block(21, DOUBLE, a=1), block(32, HALF, a=2), block(32, SINGLE, a=2), block(32, DOUBLE, a=2)]
        wanted = [(1, [0.0999755859375]), (2, [0.10000000149011612]), (3, [0.1])]
        self.blocks_are(blocks, [0.1], [], wanted)

    def test_s_of_a_block_that_keeps_none(self):
        self.blocks_are([block(2, DOUBLE, a=1, b=1), block(32, DOUBLE, a=2)], [3.0], [], [(1, [0.0, 0.0])])

    def test_s_of_the_others(self):
        for what, given, constants, s in ((20, {"p": 0}, [2.0], 3.0), (30, {"p": 0}, [1.0, 2.0, 0.0, 1.0, 0.0], 3.0),
                                          (31, {"p": 0, "q": 0, "r": 1}, [1.0, 0.5], 1.5),
                                          (33, {"p": 0, "q": 0}, [1.0], 0.5)):
            with self.subTest(what=what):
                blocks = [block(what, DOUBLE, a=1, **given), block(32, DOUBLE, a=2)]
                self.blocks_are(blocks, [3.0], constants, [(1, [s])])


class KalmanTest(TickByTick):

    def test_gains(self):
        self.goes(33, APQ, [3.0, 1.0], [[1.0]], [0.75])
        self.goes(33, APQ, [1.0, 1.0], [[1.0]], [0.5])
        self.goes(33, APQ, [1.0, 3.0], [[4.0]], [1.0])

    def test_second_tick(self):
        # v 1, g 2/3; in the second tick a is old, so the signal stays whatever the gain.
        for kind, share in ((HALF, 0.66650390625), (SINGLE, 0.6666666865348816), (DOUBLE, 2 / 3)):
            self.goes(33, APQ, [1.0, 0.5], [[1.0, share]], [share, share], (kind,))

    def test_s_in_the_next_tick(self):
        # s is 2 - (1/2) 2 = 1 with p 2, q 2; then v 3, g 3/5.
        for kind, gain in ((HALF, 0.60009765625), (SINGLE, 0.6000000238418579), (DOUBLE, 0.6)):
            self.goes(33, APQ, [2.0, 2.0], [[0.0, 1.0]], [0.0, gain], (kind,))

    def test_no_spread(self):
        self.goes(33, APQ, [0.0, 0.0], [[1.0, 2.0]], [0.0, 0.0])
        self.goes(33, APQ, [0.0, 1.0], [[1.0, 2.0]], [0.0, 0.0])
        self.goes(33, APQ, [1.0, 0.0], [[1.0, 2.0]], [1.0, 2.0])

    def test_held_between_old_and_a(self):
        self.goes(33, APQ, [1.0, 0.0], lambda e, g, d: [[-1.0, 3 * e / 4]], lambda e, g, d: [-1.0, 3 * e / 4])

    def test_greatest(self):
        self.goes(33, APQ, lambda e, g, d: [g, g], lambda e, g, d: [[1.0, 1.0, 2.0]], [1.0, 1.0, 2.0])

    def test_spread_is_rounded(self):
        # q is so large that the gain leaves s at v, which goes up by p: 3 (1 + e) is rounded to 3 + 4 e.
        for kind in KINDS:
            e = NEXT[kind]
            blocks = [block(33, kind, a=1, p=0, q=1), block(32, kind, a=2)]
            self.blocks_are(blocks, [0.0], [1 + e, GREATEST[kind]], [(1, [1 + e, 2 + 2 * e, 3 + 4 * e])])

    def test_s_isn_t_below_zero(self):
        for kind in KINDS:
            blocks = [block(33, kind, a=1, p=0, q=1), block(32, kind, a=2), block(1, kind, p=1),
                      block(23, kind, a=3, b=4)]
            self.blocks_are(blocks, [1.0], [1 / 3, 0.0], [(1, [0.0] * 4), (3, [0.0] * 4)])


class CounterTest(TickByTick):

    def test_counts(self):
        self.goes(37, {"a": 1, "b": 2, "p": 0}, [2.0], [[1.0, -1.0, 1.0, 0.0, 1.0, 1.0, 0.0, 0.5],
                                                        [0.0, 0.0, 0.0, 0.0, -1.0, 0.0, 0.0, 0.0]],
                  [1, 2, 2, 2, 0, 1, 1, 2])

    def test_end_that_isn_t_whole(self):
        self.goes(37, {"a": 1, "b": 2, "p": 0}, [1.5], [[1.0] * 3, [0.0] * 3], [1.0, 1.5, 1.5])
        self.goes(37, {"a": 1, "b": 2, "p": 0}, [0.0], [[1.0] * 3, [0.0] * 3], [0.0, 0.0, 0.0])


class HoldTest(TickByTick):

    def test_holds(self):
        self.goes(38, {"a": 1, "b": 2}, [], [[1.5, 2.5, 3.5, 4.5, 5.5], [0.0, 1.0, 0.0, 0.0, -1.0]],
                  [0.0, 2.5, 2.5, 2.5, 5.5])

    def test_rounded_to_the_kind(self):
        self.goes(38, {"a": 1, "b": 2}, [], [[0.1, 0.1], [1.0, 2.0 ** -25]], [0.0999755859375] * 2, (HALF,))


if __name__ == "__main__":
    unittest.main()
