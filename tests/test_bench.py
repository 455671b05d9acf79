"""The bench itself: it must tell wrong signals from right ones."""

import unittest

from lines import Bench, DOUBLE, block


class BenchTest(Bench):

    def test_it_sees_a_wrong_signal(self):
        blocks = [block(2, DOUBLE, a=1, b=2)]
        inputs = [[1.0, 2.0, 3.0], 0.5]
        self.assertEqual([], self.misses(blocks, inputs, [], [(0, [1.5, 2.5, 3.5])]))
        self.assertEqual([(0, 1)], self.misses(blocks, inputs, [], [(0, [1.5, 2.0, 3.5])]))

    def test_it_sees_the_least_difference(self):
        blocks = [block(14, DOUBLE, a=1)]
        for wanted in (2.0 ** -1074, -(2.0 ** -1073), 0.0):
            self.assertEqual([(0, 0)], self.misses(blocks, [2.0 ** -1074], [], [(0, [wanted])]))
        self.assertEqual([], self.misses(blocks, [2.0 ** -1074], [], [(0, [-(2.0 ** -1074)])]))


if __name__ == "__main__":
    unittest.main()
