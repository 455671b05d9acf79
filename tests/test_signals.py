"""signal and seen: what a block's signal is, its least and its greatest behind the ticks."""

import unittest

from lines import ABOVE_RANGE, BELOW_RANGE, DOUBLE, GREATEST, HALF, INFINITE, KINDS, LEAST, NEXT, OPEN, SIGN
from lines import SINGLE, answered, bits, block, build, every_row, fleet, put, record, reset, run, seen, signal
from lines import state, tick
from model import Model, bits_of

# A signed byte that comes in, and its negative.
ECHO = build([block(0, DOUBLE, a=0, b=4, q=0, r=1), block(14, DOUBLE, a=0)], [1.0, 0.0])


def came(*values):
    return [record((0, [value % 256])) for value in values]


class EachRowTest(unittest.TestCase):

    def test_signal_and_seen_of_each_row_in_each_kind(self):
        ticks = [[record((0, [t * 29 % 256, t * 57 % 256, t, 0])) for t in some] for some in ([1, 2], [5], [9, 3])]
        for kind in KINDS:
            blocks, patterns = every_row(kind)
            wanted = self.wanted(blocks, patterns, ticks)
            for number in range(len(blocks)):
                told = answered(OPEN, build(blocks, patterns), signal(0, number), *[
                    call for some in ticks for call in (run(0, some), signal(0, number), seen(0, number))])
                with self.subTest(kind=kind, block=blocks[number]):
                    self.assertEqual([0, 0], told[2])
                    self.assertEqual([one[number] for one in wanted], list(zip(told[4::3], told[5::3])))

    def wanted(self, blocks, patterns, ticks):
        """What signal and seen answer of each block behind each part of the ticks."""
        model = Model(blocks, patterns)
        wanted = []
        for some in ticks:
            for one in some:
                model.tick(one)
            wanted.append([([0, bits_of(model.signal[i])], [0, *model.seen(i)]) for i in range(len(blocks))])
        return wanted

    def test_alone_and_in_the_fleet(self):
        blocks, patterns = every_row(SINGLE)
        ticks = [[record((0, [t * 29 + i, t * 57 % 256, i, 0])) for i in range(3)] for t in range(4)]
        asked = range(21, 31)
        fleet_told = answered(OPEN, fleet(3), build(blocks, patterns), *[tick(one) for one in ticks],
                              *[call(craft, number) for craft in range(3) for number in asked
                                for call in (signal, seen)], *[state(craft, 42) for craft in range(3)])
        for craft in range(3):
            alone = answered(OPEN, build(blocks, patterns), run(0, [one[craft] for one in ticks]),
                             *[call(0, number) for number in asked for call in (signal, seen)], state(0, 42))
            first = 7 + 2 * len(asked) * craft
            self.assertEqual(alone[3:-1], fleet_told[first:first + 2 * len(asked)])
            self.assertEqual(alone[-1], fleet_told[craft - 3])


class SignalTest(unittest.TestCase):

    def signals(self, blocks, constants):
        """Each block's signal behind a tick, as bits."""
        told = answered(OPEN, build(blocks, constants), tick([record()]), *[signal(0, i) for i in range(len(blocks))])
        self.assertEqual([0] * len(blocks), [one[0] for one in told[3:]])
        return [one[1] for one in told[3:]]

    def test_doubles_of_every_size(self):
        for kind in KINDS:
            e, g, d = NEXT[kind], GREATEST[kind], LEAST[kind]
            least_normal = d / e
            values = [0.0, 1.0, 1 + e, 1 - e / 2, 2.0, d, 2 * d, 3 * d, least_normal, least_normal - d,
                      least_normal + d, 2 * least_normal, g, g / 2, 0.5, 1.5, 100.0]
            values += [-x for x in values[1:]]
            blocks = [block(1, kind, p=i) for i in range(len(values))]
            self.assertEqual([bits(x) for x in values], self.signals(blocks, values))

    def test_rounded_to_the_kind(self):
        values = [0.1, 1 / 3, 1e300, -1e300, 2.0 ** -1074, 65520.0]
        wanted = {HALF: [0.0999755859375, 0.333251953125, 65504.0, -65504.0, 0.0, 65504.0],
                  SINGLE: [0.10000000149011612, 0.3333333432674408, GREATEST[SINGLE], -GREATEST[SINGLE], 0.0, 65520.0],
                  DOUBLE: values}
        for kind in KINDS:
            blocks = [block(1, kind, p=i) for i in range(len(values))]
            self.assertEqual([bits(x) for x in wanted[kind]], self.signals(blocks, values))

    def test_known_bits(self):
        patterns = [0x3FF0000000000000, 0xBFF0000000000001, 1, SIGN + 1, INFINITE - 1, (1 << 52) - 1, 1 << 52,
                    SIGN + INFINITE - 1, 0x7FE0000000000000, 0x0010000000000001]
        blocks = [block(1, DOUBLE, p=i) for i in range(len(patterns))]
        self.assertEqual(patterns, self.signals(blocks, patterns))

    def test_every_zero_is_plus_zero(self):
        for kind in KINDS:
            constants = [-0.0, -1.0, 0.0, -LEAST[kind], 0.25, 1.0, -0.0]
            blocks = [block(1, kind, p=i) for i in range(6)]
            blocks += [block(2, kind, a=0, b=0), block(3, kind, a=0, b=2), block(4, kind, a=1, b=2),
                       block(5, kind, a=2, b=1), block(6, kind, a=0), block(7, kind, a=1, b=2, c=0),
                       block(8, kind, a=0, b=2, c=2), block(9, kind, a=2, b=2, c=0), block(10, kind, a=5, b=2, c=2),
                       block(11, kind, a=0, b=2), block(12, kind, a=0, b=0), block(13, kind, a=0), block(14, kind, a=2),
                       block(4, kind, a=3, b=4), block(5, kind, a=5, b=0), block(5, kind, a=1, b=0),
                       block(15, kind, a=1, p=0, q=0), block(17, kind, a=1, p=0), block(18, kind, a=1, p=0),
                       block(19, kind, a=1, p=5, q=0, r=0), block(20, kind, a=0, p=1), block(26, kind, a=0, b=1, c=0),
                       block(31, kind, a=0, p=1, q=1, r=1), block(35, kind, a=3, p=0), block(35, kind, a=3, p=2),
                       block(36, kind, a=1, b=0, c=0, p=0), block(39, kind, a=0), block(38, kind, a=0, b=1),
                       block(34, kind, a=5, b=1, p=5), block(0, kind, a=0, b=4, q=1, r=0),
                       block(37, kind, a=1, b=2, p=0)]
            signals = self.signals(blocks, constants)
            self.assertEqual([0, bits(-1.0), 0, bits(-LEAST[kind]), bits(0.25), bits(1.0)], signals[:6])
            self.assertEqual([0] * len(signals[6:]), signals[6:])

    def test_not_ticked(self):
        told = answered(OPEN, ECHO, signal(0, 1), tick(came(5)), signal(0, 1), reset(0), signal(0, 1), tick(came(5)),
                        ECHO, signal(0, 1), tick(came(5)), fleet(2), signal(0, 1), signal(1, 1),
                        put(1, [0.0] * 3 + [7.5, 2.0, 3.0]), signal(1, 1), signal(1, 0), signal(0, 1))
        self.assertEqual([0, 0], told[2])
        self.assertEqual([0, bits(-5.0)], told[4])
        for i in (6, 9, 12, 13, 16, 17):
            self.assertEqual([0, 0], told[i])
        self.assertEqual([0, bits(7.5)], told[15])

    def test_behind_each_tick(self):
        told = answered(OPEN, fleet(2), ECHO, *[call for value in (5, -7, 0) for call in (
            run(1, came(99, value)), signal(1, 0), signal(1, 1), signal(0, 0))])
        for i, value in enumerate((5.0, -7.0, 0.0)):
            self.assertEqual([[0, bits(value)], [0, bits(0 - value)], [0, 0]], told[4 + 4 * i:7 + 4 * i])

    def test_the_last_block_and_the_last_craft(self):
        blocks = [block(1, DOUBLE, p=0)] * 95 + [block(1, DOUBLE, p=1)]
        told = answered(OPEN, fleet(64), build(blocks, [2.0, 3.0]), run(63, [record()]), signal(63, 95), signal(63, 94),
                        seen(63, 95), signal(62, 95), seen(62, 95))
        self.assertEqual([[0, bits(3.0)], [0, bits(2.0)], [0, bits(3.0), bits(3.0)], [0, 0], [-4]], told[4:])

    def test_asking_changes_nothing(self):
        calls = [call for number in (0, 1, 2, 96, -1)
                 for call in (signal(0, number), seen(0, number), signal(1, number))]
        told = answered(OPEN, ECHO, tick(came(5)), state(0, 2), *calls, *calls, state(0, 2), seen(0, 0), tick(came(6)),
                        seen(0, 0))
        self.assertEqual(told[4:19], told[19:34])
        self.assertEqual(told[3], told[34])
        self.assertEqual([0, bits(5.0), bits(5.0)], told[35])
        self.assertEqual([0, bits(5.0), bits(6.0)], told[37])


class SeenTest(unittest.TestCase):

    def seen_behind(self, *calls):
        """What's seen of block 0 at the end."""
        return answered(OPEN, *calls, seen(0, 0))[-1]

    def test_least_and_greatest(self):
        for values, least, most in (((5,), 5, 5), ((5, 7), 5, 7), ((7, 5), 5, 7), ((-5, -7), -7, -5),
                                    ((3, -2, 1), -2, 3), ((0,), 0, 0), ((4, 9, -9, 9, 4), -9, 9), ((1, 1, 1), 1, 1)):
            wanted = [0, bits(float(least)), bits(float(most))]
            with self.subTest(values=values):
                self.assertEqual(wanted, self.seen_behind(ECHO, run(0, came(*values))))
                self.assertEqual(wanted, self.seen_behind(ECHO, *[tick(came(value)) for value in values]))
                mixed = [run(0, came(value)) if i % 2 else tick(came(value)) for i, value in enumerate(values)]
                self.assertEqual(wanted, self.seen_behind(ECHO, *mixed))

    def test_each_block_has_its_own(self):
        told = answered(OPEN, ECHO, run(0, came(5, -3)), seen(0, 0), seen(0, 1))
        self.assertEqual([[0, bits(-3.0), bits(5.0)], [0, bits(-5.0), bits(3.0)]], told[3:])

    def test_each_craft_has_its_own(self):
        told = answered(OPEN, fleet(3), ECHO, tick(came(1, 2, 3)), run(1, came(9, -9)), seen(0, 0), seen(1, 0),
                        seen(2, 0))
        self.assertEqual([[0, bits(1.0), bits(1.0)], [0, bits(-9.0), bits(9.0)], [0, bits(3.0), bits(3.0)]], told[5:])

    def test_not_ticked(self):
        ticked = run(0, came(5, 6))
        for calls in ([ECHO], [ECHO, ticked, ECHO], [ECHO, ticked, reset(0)], [ECHO, ticked, fleet(1)],
                      [ECHO, put(0, [1.0] * 6)], [ECHO, ticked, put(0, [1.0] * 6)], [ECHO, ticked, OPEN, ECHO],
                      [fleet(2), ECHO, run(1, came(5))], [ECHO, run(0, [], 0)], [ECHO, tick([], 0)]):
            with self.subTest(calls=[call[:3] for call in calls]):
                self.assertEqual([-4], self.seen_behind(*calls))

    def test_since_the_craft_was_as_at_first_or_put(self):
        ticked = run(0, came(50, -60))
        for anew in (ECHO, reset(0), fleet(1), put(0, [99.0] * 6)):
            self.assertEqual([0, bits(3.0), bits(4.0)], self.seen_behind(ECHO, ticked, anew, run(0, came(4, 3))))

    def test_reset_and_put_of_another_craft(self):
        ticked = tick(came(5, 6))
        for other in (reset(1), put(1, [9.0] * 6)):
            told = answered(OPEN, fleet(2), ECHO, ticked, other, seen(0, 0), seen(1, 0))
            self.assertEqual([[0, bits(5.0), bits(5.0)], [-4]], told[5:])

    def test_what_is_put_is_not_seen(self):
        self.assertEqual([0, bits(2.0), bits(2.0)], self.seen_behind(ECHO, put(0, [99.0] * 6), run(0, came(2))))

    def test_refused_calls_leave_it(self):
        wrong = [reset(1), fleet(0), fleet(65), put(0, [INFINITE] * 6), put(0, [1.0] * 3), put(1, [1.0] * 6),
                 build([block(40, DOUBLE)]), build([], [], 0), run(0, [], 0), tick(came(9, 9)), run(1, came(9))]
        told = answered(OPEN, ECHO, run(0, came(5, 6)), *[call for one in wrong for call in (one, seen(0, 0))])
        for i in range(len(wrong)):
            self.assertLess(told[3 + 2 * i][0], 0)
            self.assertEqual([0, bits(5.0), bits(6.0)], told[4 + 2 * i])

    def test_sizes_and_signs(self):
        for kind in KINDS:
            e, g, d = NEXT[kind], GREATEST[kind], LEAST[kind]
            for values in ((g, -g), (d, -d), (0.0, -d), (1.0, 1 + e), (-1.0, -1 - e), (d, 2 * d), (-0.0, 0.0),
                           (g, 1.0)):
                constants = [number for t, value in enumerate(values) for number in (float(t), value)] + [1.0, 0.0]
                scheme = build([block(0, DOUBLE, a=0, b=0, q=4, r=5), block(34, kind, a=0, b=2, p=0)], constants)
                told = answered(OPEN, scheme, run(0, came(0, 1)), seen(0, 1))
                self.assertEqual([0, bits(min(values) + 0.0), bits(max(values) + 0.0)], told[3])


class RefusalTest(unittest.TestCase):

    def test_out_of_range_first(self):
        for call in (signal, seen):
            for number in (BELOW_RANGE, -1, 96, 97, ABOVE_RANGE):
                self.assertEqual([[-2], [-2]], answered(OPEN, call(0, number), ECHO, call(0, number))[1::2])
            for craft in (BELOW_RANGE, -1, 1, 63, 64, ABOVE_RANGE):
                # No such block either.
                for number in (0, 95, 96):
                    self.assertEqual([[-2], [-2]], answered(OPEN, call(craft, number), ECHO, call(craft, number))[1::2])

    def test_no_scheme_second(self):
        for call in (signal, seen):
            for number in (0, 1, 95):
                self.assertEqual([-3], answered(OPEN, call(0, number))[1])
                self.assertEqual([-3], answered(OPEN, ECHO, tick(came(1)), OPEN, call(0, number))[4])
                self.assertEqual([-3], answered(OPEN, fleet(5), call(4, number))[2])

    def test_no_such_block_third(self):
        for call in (signal, seen):
            for number in (2, 3, 95):
                self.assertEqual([-4], answered(OPEN, ECHO, call(0, number))[2])
                self.assertEqual([-4], answered(OPEN, ECHO, tick(came(1)), call(0, number))[3])
            self.assertEqual([-4], answered(OPEN, ECHO, tick(came(1)), build([block(39, 0, a=0)]), call(0, 1))[4])


if __name__ == "__main__":
    unittest.main()
