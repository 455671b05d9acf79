"""What a tick is: which tick's signals are taken, what rudders put out, each craft by itself."""

import unittest

from lines import Bench, DOUBLE, HALF, KINDS, OPEN, SINGLE, answered, block, build, fleet, record, records_of, run, tick


class SignalsTakenTest(Bench):

    def test_earlier_own_and_later(self):
        for kind in KINDS:
            # Block 3 takes the input, its own signal and block 4's.
            blocks = [block(2, kind, a=1, b=1), block(7, kind, a=1, b=3, c=4), block(2, kind, a=2, b=2)]
            inputs = [[1.0, 2.0, 3.0]]
            wanted = [(0, [2, 4, 6]), (1, [0, 4, 20]), (2, [4, 8, 12])]
            with self.subTest(kind=kind):
                self.blocks_are(blocks, inputs, [], wanted)

    def test_own_signal_in_each_place(self):
        for place, given in (("a", {"a": 2, "b": 1, "c": 1}), ("b", {"a": 1, "b": 2, "c": 1}),
                             ("c", {"a": 1, "b": 1, "c": 2})):
            wanted = [4.0, 8.0, 12.0] if place == "c" else [2.0, 6.0, 14.0]
            with self.subTest(place=place):
                self.signals_are(DOUBLE, 7, given, [[2.0, 2.0, 2.0]], [], wanted)

    def test_a_later_signal_is_kept_as_it_was_before(self):
        blocks = [block(21, DOUBLE, a=3), block(2, DOUBLE, a=1, b=1)]
        self.blocks_are(blocks, [[1.0, 2.0, 3.0, 4.0]], [], [(0, [0, 0, 2, 4]), (1, [2, 4, 6, 8])])

    def test_a_ring_of_later_blocks(self):
        blocks = [block(2, DOUBLE, a=4, b=1), block(2, DOUBLE, a=4, b=1), block(2, DOUBLE, a=3, b=1)]
        # 2: 4's before + 1; 3: the same; 4: 3's now + 1.
        self.blocks_are(blocks, [1.0], [], [(0, [1, 3, 5]), (1, [1, 3, 5]), (2, [2, 4, 6])])

    def test_a_later_signal_of_another_kind(self):
        blocks = [block(2, HALF, a=3, b=1), block(2, DOUBLE, a=1, b=4), block(1, DOUBLE, p=0)]
        self.blocks_are(blocks, [0.0], [0.1], [(0, [0, 0, 0.0999755859375]), (1, [0, 0.1, 0.1])])

    def test_each_step_is_rounded_in_its_own_kind(self):
        blocks = [block(2, HALF, a=1, b=1), block(2, SINGLE, a=2, b=1), block(2, DOUBLE, a=3, b=1)]
        # 0.1 as a half is 0.0999755859375, as a single 0.10000000149011612.
        half = 0.199951171875
        single = 0.2999511659145355
        self.blocks_are(blocks, [0.1], [], [(0, [half]), (1, [single]), (2, [single + 0.1])])


class RudderTest(unittest.TestCase):

    def went(self, blocks, constants, came=None):
        told = answered(OPEN, build(blocks, constants), run(0, [record()] if came is None else came))
        return records_of(told[2])

    def test_none(self):
        self.assertEqual([record()], self.went([block(1, DOUBLE, p=0)], [5.0], [[255] * 256]))

    def test_many(self):
        blocks = [block(1, DOUBLE, p=0), block(36, DOUBLE, a=0, b=0, c=0, p=0), block(36, DOUBLE, a=0, b=10, c=5, p=0),
                  block(36, DOUBLE, a=0, b=248, c=7, p=0)]
        self.assertEqual([record((0, [5]), (10, [5, 0]), (248, [5] + [0] * 7))], self.went(blocks, [5.0]))

    def test_later_over_earlier(self):
        long = block(36, DOUBLE, a=0, b=8, c=2, p=0)
        short = block(36, DOUBLE, a=1, b=9, c=0, p=0)
        first = [block(1, DOUBLE, p=0), block(1, DOUBLE, p=1)]
        values = [float(0x11223344), 7.0]
        self.assertEqual([record((8, [0x44, 7, 0x22, 0x11]))], self.went(first + [long, short], values))
        self.assertEqual([record((8, [0x44, 0x33, 0x22, 0x11]))], self.went(first + [short, long], values))
        same = block(36, DOUBLE, a=1, b=8, c=2, p=0)
        self.assertEqual([record((8, [7, 0, 0, 0]))], self.went(first + [long, same], values))

    def test_zero_is_put_over_what_was_there(self):
        blocks = [block(1, DOUBLE, p=0), block(1, DOUBLE, p=1), block(36, DOUBLE, a=0, b=0, c=1, p=0),
                  block(36, DOUBLE, a=1, b=0, c=0, p=0)]
        self.assertEqual([record((1, [1]))], self.went(blocks, [511.0, 0.0]))

    def test_each_tick_begins_with_an_empty_record(self):
        blocks = [block(0, DOUBLE, a=0, b=0, q=0, r=1), block(36, DOUBLE, a=0, b=5, c=0, p=0)]
        came = [record((0, [9]), (7, [1])), record()]
        self.assertEqual([record((5, [9])), record()], self.went(blocks, [1.0, 0.0], came))

    def test_sensors_do_not_see_what_goes_out(self):
        blocks = [block(1, DOUBLE, p=0), block(36, DOUBLE, a=0, b=0, c=0, p=0), block(0, DOUBLE, a=0, b=0, q=1, r=2),
                  block(36, DOUBLE, a=2, b=1, c=0, p=0)]
        self.assertEqual([record((0, [9, 4]))], self.went(blocks, [9.0, 1.0, 0.0], [record((0, [4]))]))

    def test_held_to_the_width_not_cut(self):
        blocks = [block(1, DOUBLE, p=0), block(36, DOUBLE, a=0, b=0, c=0, p=0), block(36, DOUBLE, a=0, b=1, c=4, p=0),
                  block(14, DOUBLE, a=0), block(36, DOUBLE, a=3, b=2, c=0, p=0), block(36, DOUBLE, a=3, b=3, c=4, p=0)]
        self.assertEqual([record((0, [255, 127, 0, 128]))], self.went(blocks, [300.0]))


class FleetTest(unittest.TestCase):
    """Blocks: what comes in, its sum over the ticks, a delay; two rudders."""

    SCHEME = build([block(0, SINGLE, a=0, b=1, q=0, r=1), block(19, DOUBLE, a=0, p=2, q=3, r=4), block(21, HALF, a=1),
                    block(36, DOUBLE, a=1, b=0, c=6, p=0), block(36, DOUBLE, a=2, b=4, c=6, p=0)],
                   [0.37, 1.5, 1.1, -900.0, 900.0])

    def came(self, craft, n):
        return [record((0, [(craft * 37 + t * 11) % 256, (craft + t) % 3])) for t in range(n)]

    def test_alone_as_in_the_fleet(self):
        for craft in (1, 2, 5, 10):
            came = [self.came(i, 6) for i in range(craft)]
            told = answered(OPEN, fleet(craft), self.SCHEME, *[tick([one[t] for one in came]) for t in range(6)])
            went = [records_of(answer) for answer in told[3:]]
            for i in range(craft):
                alone = records_of(answered(OPEN, self.SCHEME, run(0, came[i]))[2])
                self.assertEqual(alone, [records[i] for records in went])

    def test_run_and_tick_mixed(self):
        came = [self.came(i, 5) for i in range(3)]
        told = answered(OPEN, fleet(3), self.SCHEME, run(1, came[1][:3]), tick([came[0][0], came[1][3], came[2][0]]),
                        run(2, came[2][1:]), run(1, came[1][4:]))
        alone = [records_of(answered(OPEN, self.SCHEME, run(0, one))[2]) for one in came]
        self.assertEqual(alone[1][:3], records_of(told[3]))
        self.assertEqual([alone[0][0], alone[1][3], alone[2][0]], records_of(told[4]))
        self.assertEqual(alone[2][1:], records_of(told[5]))
        self.assertEqual(alone[1][4:], records_of(told[6]))

    def test_one_run_or_many(self):
        came = self.came(3, 9)
        once = records_of(answered(OPEN, self.SCHEME, run(0, came))[2])
        told = answered(OPEN, self.SCHEME, *[run(0, [one]) for one in came])
        self.assertEqual(once, [records_of(answer)[0] for answer in told[2:]])


if __name__ == "__main__":
    unittest.main()
