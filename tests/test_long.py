"""The longest lines that may be handed in are answered in reasonable time."""

import time
import unittest

from lines import DOUBLE, GREATEST, KINDS, LEAST, OPEN, answered, block, build, fleet, put, record, reset, round_call
from lines import run, seen, signal, state, tick, whole_call

LONGEST = 16100
# Far above what's needed, so that a slow machine passes, and far below what a slow way would take.
SECONDS = 20


class LongTest(unittest.TestCase):

    def timed(self, *calls):
        self.assertLessEqual(sum(map(len, calls)), LONGEST)
        self.assertLessEqual(len(calls), 100)
        start = time.process_time()
        told = answered(*calls)
        self.assertLess(time.process_time() - start, SECONDS)
        self.assertEqual([], [one for one in told if one[0] < 0])
        return told

    def scheme(self, what, kind, given, constants):
        """96 blocks: two sensors with all eight bytes, then one row again and again."""
        blocks = [block(0, kind, a=0, b=3, q=0, r=1), block(0, kind, a=8, b=7, q=1, r=0)]
        return build(blocks + [block(what, kind, **given)] * 94, constants)

    def came(self, n):
        return [record((0, [(i * 7919 + t * 31) % 256 for i in range(256)])) for t in range(n)]

    ROWS = [
        (5, {"a": 0, "b": 1}, []), (6, {"a": 0}, []), (7, {"a": 0, "b": 1, "c": 0}, []), (18, {"a": 0, "p": 2}, [0.3]),
        (30, {"a": 0, "p": 2}, [0.3, 1e-300, 1e300, 0.7, 1e-9]), (31, {"a": 0, "p": 2, "q": 2, "r": 2}, [0.3]),
        (33, {"a": 0, "p": 2, "q": 2}, [1e-300]),
        (34, {"a": 1, "b": 64, "p": 2}, [x for i in range(64) for x in (1e280 * (i + 1), -1e308 + i)]),
        (36, {"a": 0, "b": 0, "c": 3, "p": 0}, []),
    ]

    def test_a_long_run_of_each_heavy_row(self):
        for what, given, constants in self.ROWS:
            for kind in KINDS if what != 34 else (DOUBLE,):
                scheme = self.scheme(what, kind, given, [1e-290, GREATEST[kind], *constants])
                n = min(62, (LONGEST - 1 - len(scheme) - 4) // 256)
                told = self.timed(OPEN, scheme, run(0, self.came(n)))
                self.assertEqual(1 + 256 * n, len(told[2]))

    def test_a_large_fleet(self):
        scheme = self.scheme(6, DOUBLE, {"a": 0}, [1e-290, 1e300])
        told = self.timed(OPEN, fleet(59), scheme, tick(self.came(59)))
        self.assertEqual(1 + 256 * 59, len(told[3]))

    def test_62_records(self):
        scheme = build([block(0, DOUBLE, a=0, b=0, q=0, r=0), block(36, DOUBLE, a=0, b=0, c=0, p=0)], [1.0])
        told = self.timed(OPEN, scheme, run(0, self.came(62)))
        self.assertEqual(1 + 256 * 62, len(told[2]))

    def test_many_schemes(self):
        curves = build([block(34, DOUBLE, a=0, b=64, p=0)] * 96, [float(i) for i in range(128)])
        calls = [OPEN] + [curves] * ((LONGEST - 1) // len(curves))
        self.timed(*calls)
        most = build([block(30, DOUBLE, a=0, p=251)] * 96, [float(i) for i in range(256)])
        self.timed(OPEN, *[most] * ((LONGEST - 1) // len(most)))

    def test_many_craft_as_at_first_again_and_again(self):
        scheme = self.scheme(6, DOUBLE, {"a": 0}, [1e-290, 1e300])
        self.timed(OPEN, scheme, *[fleet(64), reset(63)] * 49)

    def test_many_short_runs(self):
        scheme = self.scheme(30, DOUBLE, {"a": 0, "p": 0}, [0.3, 1e-300, 1e300, 0.7, 1e-9])
        self.timed(OPEN, scheme, *[run(0, self.came(1))] * 58)

    def test_many_states_told_and_put(self):
        for kind in KINDS:
            scheme = self.scheme(30, kind, {"a": 0, "p": 0}, [0.3, 1e-300, 1e300, 0.7, 1e-9])
            values = [GREATEST[kind], -GREATEST[kind], LEAST[kind]] * 96
            told = self.timed(OPEN, scheme, *[put(0, values)] * 51)
            self.assertEqual([[96]] * 51, told[2:])
            told = self.timed(OPEN, scheme, put(0, values), *[state(0, 96)] * 97)
            self.assertEqual(told[3:4] * 97, told[3:])
            self.assertEqual(289, len(told[3]))

    def test_put_and_run_in_turn(self):
        for what, given in ((31, {"a": 0, "p": 0, "q": 0, "r": 1}), (33, {"a": 1, "p": 0, "q": 0}), (6, {"a": 0})):
            scheme = self.scheme(what, DOUBLE, given, [0.3, 1e300])
            values = [0.1, 1e-300, 1e300] * 96
            turn = [put(0, values), run(0, self.came(1)), seen(0, 95), state(0, 96)]
            told = self.timed(OPEN, scheme, *turn * 24)
            self.assertEqual(told[2:6] * 24, told[2:])

    def test_a_large_fleet_is_put_ticked_and_told(self):
        scheme = self.scheme(33, DOUBLE, {"a": 0, "p": 0, "q": 0}, [0.3, 1e300])
        told = self.timed(OPEN, fleet(50), scheme, put(49, [0.1] * 288), tick(self.came(50)), *[
            call for craft in range(47, 50) for call in (state(craft, 96), seen(craft, 95), signal(craft, 95))])
        self.assertEqual(told[5][1:], told[8][1:])
        self.assertNotEqual(told[5][1:], told[11][1:])

    def test_a_hundred_steps(self):
        for kind in KINDS:
            g, d = GREATEST[kind], LEAST[kind]
            for op in range(9):
                for numbers in ((g, g, -g), (g, d, d), (d, g, -g), (d, d, g)):
                    self.timed(*[round_call(kind, op, *numbers)] * 100)
            for width in range(8):
                self.timed(*[whole_call(kind, 0, width, -g)] * 100)
                self.timed(*[whole_call(kind, 2, width, d)] * 100)


if __name__ == "__main__":
    unittest.main()
