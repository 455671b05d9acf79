"""The calls' list of answers; open, build, fleet, reset, tick, run: their numbers, their refusals, what stays."""

import unittest

from lines import ABOVE_RANGE, BELOW_RANGE, DOUBLE, INFINITE, NO_NUMBER, OPEN, answered, bits, block, build, fleet, put
from lines import record, records_of, reset, round_call, run, seen, signal, state, tick, whole_call
from courseheld.helm import answers

OUT_OF_RANGE, NO_SCHEME, NOT_AS_TOLD = [-2], [-3], [-5]
FAR = (BELOW_RANGE, -1, 0, ABOVE_RANGE)

# A craft that counts its ticks and puts the count out at byte 0.
COUNTING = build([block(1, DOUBLE, p=1), block(1, DOUBLE, p=2), block(37, DOUBLE, a=0, b=1, p=0),
                  block(36, DOUBLE, a=2, b=0, c=0, p=0)], [200.0, 1.0, 0.0])
# As COUNTING, but by twos, so that it shows which scheme is there.
BY_TWOS = build([block(1, DOUBLE, p=3), block(19, DOUBLE, a=0, p=0, q=1, r=2),
                 block(36, DOUBLE, a=1, b=0, c=0, p=0)], [2.0, 0.0, 200.0, 1.0])
# A scheme that's never told right: a limit's p is above its q.
WRONG = build([block(15, DOUBLE, a=0, p=0, q=1)], [1.0, 0.0])
EMPTY = record()
# Two blocks that may have any state: whether something comes in, and a delay.
ANY = build([block(27, DOUBLE, a=1, b=1), block(21, DOUBLE, a=1)])


def counts(answer):
    """The first byte of each record that went out."""
    return [one[0] for one in records_of(answer)]


def one_tick(craft=0):
    return run(craft, [EMPTY])


class AnswersTest(unittest.TestCase):

    def test_the_list_of_answers(self):
        calls = [*OPEN, *COUNTING, *fleet(2), *reset(1), *fleet(0), *one_tick(1)]
        self.assertEqual([1, 0, 1, 4, 1, 0, 1, 0, 1, -2, 257, 1, 1] + [0] * 255, answers(calls))

    def test_what_is_handed_in_stays(self):
        calls = [*OPEN, *COUNTING, *one_tick(), *WRONG, *fleet(3), *tick([EMPTY] * 3)]
        before = list(calls)
        answers(calls)
        self.assertEqual(before, calls)

    def test_nothing_is_kept(self):
        calls = [*OPEN, *COUNTING, *one_tick(), *one_tick()]
        first = answers(calls)
        self.assertEqual(first, answers(calls))
        self.assertEqual([1, 0, 1, -3], answers([*OPEN, *one_tick()]))
        first.clear()
        self.assertEqual(6 + 2 * 256 + 2, len(answers(calls)))

    def test_the_list_of_the_other_answers(self):
        one = build([block(1, DOUBLE, p=0)], [2.0])
        calls = [*OPEN, *one, *one_tick(), *signal(0, 0), *seen(0, 0), *state(0, 1), *put(0, [3.0, 4.0, 5.0]),
                 *seen(0, 0), *state(0, 1), *round_call(2, 0, 1.0, 2.0), *whole_call(2, 0, 5, -2.0), *signal(0, 96)]
        two, three, four, five = map(bits, (2.0, 3.0, 4.0, 5.0))
        told = [1, 0, 1, 1, 257, 1] + [0] * 256 + [2, 0, two, 3, 0, two, two, 4, 1, two, 0, 0, 1, 1, 1, -4]
        self.assertEqual(told + [4, 1, three, four, five, 2, 0, three, 3, 0, 254, 255, 1, -2], answers(calls))

    def test_what_is_put_stays_and_is_not_kept(self):
        calls = [*OPEN, *ANY, *put(0, [-0.0, 2.0, 3.0] * 2), *one_tick(), *put(0, [1.0] * 5 + [INFINITE]), *state(0, 2),
                 *round_call(0, 0, -0.0, 0.1), *whole_call(0, 0, 0, -0.0)]
        before = list(calls)
        first = answers(calls)
        self.assertEqual(before, calls)
        self.assertEqual(first, answers(calls))
        self.assertEqual([1, 0, 1, 2, 7, 2] + [0] * 6, answers([*OPEN, *ANY, *state(0, 2)]))

    def test_only_whole_numbers(self):
        told = answers([*OPEN, *ANY, *one_tick(), *tick([EMPTY]), *signal(0, 0), *seen(0, 1), *state(0, 2),
                        *put(0, [1.0] * 6), *state(0, 2), *round_call(1, 3, 1.0, 3.0), *whole_call(1, 0, 7, 9.0)])
        self.assertEqual({int}, {*map(type, told)})
        self.assertIs(list, type(told))

    def test_a_hundred_calls(self):
        self.assertEqual([1, 0] * 100, answers(OPEN * 100))
        self.assertEqual([1, 0] + [1, -3] * 99, answers(OPEN + reset(0) * 99))


class OpenTest(unittest.TestCase):

    def test_open(self):
        self.assertEqual([[0], [0], NO_SCHEME], answered(OPEN, OPEN, one_tick()))

    def test_takes_the_scheme_and_the_fleet(self):
        told = answered(OPEN, fleet(3), COUNTING, one_tick(2), OPEN, one_tick(), one_tick(1), reset(0), COUNTING,
                        tick([EMPTY] * 3), tick([EMPTY]))
        self.assertEqual([0], told[4])
        self.assertEqual([NO_SCHEME, OUT_OF_RANGE, NO_SCHEME, [4], OUT_OF_RANGE], told[5:10])
        self.assertEqual([1], counts(told[10]))


class BuildTest(unittest.TestCase):

    def test_n(self):
        for n in (1, 2, 95, 96):
            told = answered(OPEN, build([block(1, DOUBLE, p=0)] * n, [1.0]), one_tick())
            self.assertEqual([n], told[1])
            self.assertEqual([EMPTY], records_of(told[2]))
        for n in (*FAR, 97):
            self.assertEqual(OUT_OF_RANGE, answered(OPEN, build([], [1.0], n))[1])
            self.assertEqual(OUT_OF_RANGE, answered(OPEN, build([], [], n))[1])

    def test_k(self):
        for k in (0, 1, 255, 256):
            self.assertEqual([1], answered(OPEN, build([block(39, DOUBLE, a=0)], [1.0] * k))[1])

    def test_every_craft_is_as_at_first(self):
        told = answered(OPEN, fleet(3), COUNTING, tick([EMPTY] * 3), run(1, [EMPTY] * 2), COUNTING, tick([EMPTY] * 3))
        self.assertEqual([1, 1, 1], counts(told[3]))
        self.assertEqual([2, 3], counts(told[4]))
        self.assertEqual([[4], [1, 1, 1]], [told[5], counts(told[6])])

    def test_another_scheme(self):
        told = answered(OPEN, COUNTING, one_tick(), BY_TWOS, run(0, [EMPTY] * 2), COUNTING, one_tick())
        self.assertEqual([[1], [2, 4], [1]], [counts(told[2]), counts(told[4]), counts(told[6])])

    def test_s_and_t_are_as_at_first(self):
        # The filter puts out what it took two ticks before.
        late = build([block(0, DOUBLE, a=0, b=0, q=0, r=1), block(30, DOUBLE, a=0, p=1),
                      block(36, DOUBLE, a=1, b=0, c=0, p=0)], [1.0, 0.0, 0.0, 1.0, 0.0, 0.0])
        nine = record((0, [9]))
        told = answered(OPEN, late, run(0, [nine, EMPTY, EMPTY]), run(0, [nine]), late, run(0, [EMPTY] * 3),
                        run(0, [nine]), reset(0), run(0, [EMPTY] * 3), run(0, [nine]), fleet(1),
                        run(0, [EMPTY] * 3), run(0, [nine, EMPTY, EMPTY]))
        self.assertEqual([0, 0, 9], counts(told[2]))
        for i in (5, 8, 11):
            self.assertEqual([0, 0, 0], counts(told[i]))
        self.assertEqual([0, 0, 9], counts(told[12]))

    def test_refused_changes_nothing(self):
        for wrong, refusal in ((WRONG, NOT_AS_TOLD), (build([], [], 0), OUT_OF_RANGE),
                               (build([], [], 97), OUT_OF_RANGE),
                               (build([block(39, DOUBLE, a=0)], [INFINITE]), NOT_AS_TOLD)):
            told = answered(OPEN, wrong, one_tick(), fleet(2), COUNTING, one_tick(1), wrong, tick([EMPTY] * 2))
            self.assertEqual([refusal, NO_SCHEME], told[1:3])
            self.assertEqual(refusal, told[6])
            self.assertEqual([1, 2], counts(told[7]))

    def test_a_wrong_last_block_changes_nothing(self):
        wrong = build([block(1, DOUBLE, p=0)] * 5 + [block(40, DOUBLE)], [1.0])
        told = answered(OPEN, COUNTING, one_tick(), wrong, one_tick())
        self.assertEqual([NOT_AS_TOLD, [2]], [told[3], counts(told[4])])

    def test_range_is_looked_at_first(self):
        for n in (*FAR, 97):
            self.assertEqual(OUT_OF_RANGE, answered(OPEN, build([], [INFINITE, NO_NUMBER], n))[1])


class FleetTest(unittest.TestCase):

    def test_n(self):
        for n in (1, 2, 63, 64):
            told = answered(OPEN, fleet(n), reset(n - 1), reset(n))
            self.assertEqual([[0], NO_SCHEME, OUT_OF_RANGE], told[1:])
        for n in (*FAR, 65):
            self.assertEqual([OUT_OF_RANGE, NO_SCHEME, OUT_OF_RANGE], answered(OPEN, fleet(n), reset(0), reset(1))[1:])

    def test_all_are_as_at_first_and_the_scheme_stays(self):
        told = answered(OPEN, COUNTING, one_tick(), fleet(2), tick([EMPTY] * 2), fleet(2), tick([EMPTY] * 2), fleet(1),
                        one_tick())
        self.assertEqual([[1], [1, 1], [1, 1], [1]], [counts(told[i]) for i in (2, 4, 6, 8)])

    def test_refused_changes_nothing(self):
        for n in (*FAR, 65):
            told = answered(OPEN, fleet(2), COUNTING, one_tick(1), fleet(n), tick([EMPTY] * 2))
            self.assertEqual([OUT_OF_RANGE, [1, 2]], [told[4], counts(told[5])])


class ResetTest(unittest.TestCase):

    def test_one_craft_is_as_at_first(self):
        told = answered(OPEN, fleet(3), COUNTING, tick([EMPTY] * 3), reset(1), tick([EMPTY] * 3))
        self.assertEqual([[0], [2, 1, 2]], [told[4], counts(told[5])])

    def test_refusals(self):
        for craft in (BELOW_RANGE, -1, 3, 63, 64, ABOVE_RANGE):
            told = answered(OPEN, fleet(3), reset(craft), COUNTING, tick([EMPTY] * 3), reset(craft), tick([EMPTY] * 3))
            self.assertEqual([OUT_OF_RANGE, OUT_OF_RANGE, [2, 2, 2]], [told[2], told[5], counts(told[6])])

    def test_no_scheme_comes_second(self):
        self.assertEqual([NO_SCHEME, OUT_OF_RANGE], answered(OPEN, reset(0), reset(1))[1:])


class TickTest(unittest.TestCase):

    def test_n_is_how_many_craft_there_are(self):
        for n in (1, 2, 3):
            told = answered(OPEN, fleet(2), COUNTING, tick([EMPTY] * n), tick([EMPTY] * 2))
            if n == 2:
                self.assertEqual([[1, 1], [2, 2]], [counts(told[3]), counts(told[4])])
            else:
                self.assertEqual([OUT_OF_RANGE, [1, 1]], [told[3], counts(told[4])])

    def test_n_out_of_range(self):
        for n in (*FAR, 65):
            told = answered(OPEN, COUNTING, tick([], n), one_tick())
            self.assertEqual([OUT_OF_RANGE, [1]], [told[2], counts(told[3])])

    def test_62_craft(self):
        told = answered(OPEN, fleet(62), COUNTING, tick([EMPTY] * 62))
        self.assertEqual([1] * 62, counts(told[3]))

    def test_no_scheme_comes_second(self):
        self.assertEqual([NO_SCHEME, OUT_OF_RANGE, OUT_OF_RANGE],
                         answered(OPEN, tick([EMPTY]), tick([EMPTY] * 2), tick([], 0))[1:])

    def test_each_craft_has_its_own_record(self):
        echo = build([block(0, DOUBLE, a=9, b=0, q=0, r=1), block(36, DOUBLE, a=0, b=0, c=0, p=0)], [1.0, 0.0])
        told = answered(OPEN, fleet(3), echo, tick([record((9, [i])) for i in (5, 6, 7)]))
        self.assertEqual([5, 6, 7], counts(told[3]))


class RunTest(unittest.TestCase):

    def test_one_record_after_another(self):
        echo = build([block(0, DOUBLE, a=9, b=0, q=0, r=1), block(36, DOUBLE, a=0, b=0, c=0, p=0)], [1.0, 0.0])
        told = answered(OPEN, fleet(2), echo, run(1, [record((9, [i])) for i in (5, 6, 7)]))
        self.assertEqual([5, 6, 7], counts(told[3]))

    def test_only_that_craft(self):
        told = answered(OPEN, fleet(3), COUNTING, run(1, [EMPTY] * 4), tick([EMPTY] * 3))
        self.assertEqual([[1, 2, 3, 4], [1, 5, 1]], [counts(told[3]), counts(told[4])])

    def test_62_ticks(self):
        told = answered(OPEN, COUNTING, run(0, [EMPTY] * 62))
        self.assertEqual(list(range(1, 63)), counts(told[2]))

    def test_refusals(self):
        for craft in (BELOW_RANGE, -1, 2, 64, ABOVE_RANGE):
            told = answered(OPEN, fleet(2), run(craft, [EMPTY]), COUNTING, run(craft, [EMPTY]), tick([EMPTY] * 2))
            self.assertEqual([OUT_OF_RANGE, OUT_OF_RANGE, [1, 1]], [told[2], told[4], counts(told[5])])
        for n in (*FAR, 4097):
            told = answered(OPEN, run(0, [], n), COUNTING, run(0, [], n), one_tick())
            self.assertEqual([OUT_OF_RANGE, OUT_OF_RANGE, [1]], [told[1], told[3], counts(told[4])])

    def test_no_scheme_comes_second(self):
        self.assertEqual([NO_SCHEME, OUT_OF_RANGE, OUT_OF_RANGE],
                         answered(OPEN, run(0, [EMPTY]), run(1, [EMPTY]), run(0, [], 0))[1:])


if __name__ == "__main__":
    unittest.main()
