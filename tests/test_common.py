import unittest

from bobbinlace.desk import common, form, same
from helpers import (
    PAIRS_OUT_OF_BOUNDS, beginnings_of, drawn_pairs, short_pairs, slow_common, slow_form, some_working, split_off,
    stirred,
)


class OrdinaryWorkings(unittest.TestCase):
    def test_no_common_beginning(self):
        self.assertEqual(common(2, [0], [64]), [0])
        self.assertEqual(common(2, [64, 0], [0, 64]), [0])
        self.assertEqual(common(2, [0, 0], [1, 1]), [0])
        self.assertEqual(common(3, [65, 1, 2], [2, 1, 65]), [0])

    def test_a_beginning_of_the_other(self):
        self.assertEqual(common(2, [64, 0], [64, 0, 1, 64]), [0, 64, 0])
        self.assertEqual(common(2, [64, 1], [64, 0, 1, 64]), [0, 64, 1])
        self.assertEqual(common(2, [64, 0, 1, 64], [64, 1]), [0, 64, 1])
        self.assertEqual(common(3, [2], [64, 0, 2]), [0, 2])
        self.assertEqual(common(1, [0] * 3, [0] * 5), [0, 0, 0, 0])

    def test_the_same_lace_twice(self):
        self.assertEqual(common(2, [64, 0, 1, 64], [64, 1, 0, 64]), [0, 64, 0, 1, 64])
        self.assertEqual(common(3, [64, 0, 2], [64, 2, 0]), [0, 2, 64, 0])

    def test_two_that_part(self):
        self.assertEqual(common(2, [64, 0, 64], [64, 1, 64]), [0, 64])
        self.assertEqual(common(3, [1, 2, 65, 0], [0, 1, 64]), [0, 0, 1])
        self.assertEqual(common(4, [66, 0, 3, 64], [64, 66, 3, 3]), [0, 66, 3])
        self.assertEqual(common(3, [65, 0, 1], [0, 2, 65]), [0, 0])

    def test_a_shared_act_behind_one_that_is_not_shared(self):
        self.assertEqual(common(2, [0, 1], [1]), [0, 1])
        self.assertEqual(common(2, [64, 1], [1]), [0])
        self.assertEqual(common(3, [0, 64, 2], [1, 2]), [0, 2])

    def test_against_all_beginnings_of_both(self):
        for n, one, other in short_pairs():
            self.assertEqual(common(n, one, other), [0] + slow_common(one, other), (n, one, other))

    def test_against_all_beginnings_of_longer_laces(self):
        for n, one, other in drawn_pairs((5, 8), 18):
            self.assertEqual(common(n, one, other), [0] + slow_common(one, other), (n, one, other))

    def test_each_beginning_of_both_is_one_of_it(self):
        for n, one, other in drawn_pairs((4, 6), 14):
            found = common(n, one, other)[1:]
            self.assertEqual(beginnings_of(found), beginnings_of(one) & beginnings_of(other), (n, one, other))


class LongWorkings(unittest.TestCase):
    def test_against_a_slow_search(self):
        for n in (1, 2, 3, 9, 32):
            alike = some_working(n, 200, n)
            one = stirred(alike + some_working(n, 312, n + 1), 1)
            other = stirred(alike + some_working(n, 200, n + 2), 2)
            expected = slow_form(split_off(one, other)[0])
            self.assertGreaterEqual(len(expected), 200)
            self.assertEqual(common(n, one, other), [0] + expected)
            self.assertEqual(common(n, other, one), [0] + expected)

    def test_with_itself_it_is_the_form(self):
        for n in (1, 2, 9, 32):
            working = some_working(n, 512, n)
            self.assertEqual(common(n, working, stirred(working, 3)), form(n, working))
            self.assertEqual(same(n, common(n, working, working)[1:], working), [0, 1])


class Bounds(unittest.TestCase):
    def test_pairs(self):
        for n in PAIRS_OUT_OF_BOUNDS:
            self.assertEqual(common(n, [], []), [-1])
            self.assertEqual(common(n, [0], [0]), [-1])
        self.assertEqual(common(1, [0], [0, 0]), [0, 0])
        self.assertEqual(common(32, [94, 0, 31], [0, 94]), [0, 0, 94])

    def test_empty_workings(self):
        for n in range(1, 33):
            self.assertEqual(common(n, [], []), [0])
            self.assertEqual(common(n, [], [0]), [0])
            self.assertEqual(common(n, [0], []), [0])

    def test_length(self):
        self.assertEqual(common(1, [0] * 512, [0] * 512), [0] + [0] * 512)
        self.assertEqual(common(1, [0] * 512, [0] * 511), [0] + [0] * 511)
        self.assertEqual(common(32, [94] * 256 + [0] * 256, [0] * 512), [0] + [0] * 256)
        for length in (513, 600):
            self.assertEqual(common(1, [0] * length, [0]), [-1])
            self.assertEqual(common(1, [0], [0] * length), [-1])
            self.assertEqual(common(1, [0] * length, [0] * length), [-1])


class Refusals(unittest.TestCase):
    def test_no_act_in_a_or_in_b(self):
        for n in range(1, 33):
            for number in (n, 63, 64 + n - 1, 95, 128, 255):
                self.assertEqual(common(n, [number], []), [-5])
                self.assertEqual(common(n, [], [0, number]), [-5])
                self.assertEqual(common(n, [number], [number]), [-5])
        self.assertEqual(common(3, [0] * 511 + [3], [0] * 511 + [66]), [-5])

    def test_bounds_go_ahead_of_no_act(self):
        self.assertEqual(common(4, [255], [0] * 513), [-1])
        self.assertEqual(common(4, [0] * 513, [255]), [-1])
        self.assertEqual(common(4, [255], [255] * 600), [-1])
        for n in PAIRS_OUT_OF_BOUNDS:
            self.assertEqual(common(n, [255], [255]), [-1])


if __name__ == "__main__":
    unittest.main()
