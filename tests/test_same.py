import unittest

from bobbinlace.desk import ends, form, same, thread
from helpers import PAIRS_OUT_OF_BOUNDS, drawn_pairs, lace_of, short_pairs, some_working, stirred


class OrdinaryWorkings(unittest.TestCase):
    def test_lawful_changes_lead_from_one_to_the_other(self):
        self.assertEqual(same(2, [0, 1], [1, 0]), [0, 1])
        self.assertEqual(same(2, [64, 0, 1, 64], [64, 1, 0, 64]), [0, 1])
        self.assertEqual(same(3, [64, 0, 2], [2, 64, 0]), [0, 1])
        self.assertEqual(same(3, [64, 65], [65, 64]), [0, 1])
        self.assertEqual(same(32, [31, 0, 94, 64], [0, 31, 64, 94]), [0, 1])

    def test_none_at_all_lead_too(self):
        self.assertEqual(same(1, [0], [0]), [0, 1])
        self.assertEqual(same(2, [64, 0, 1, 64], [64, 0, 1, 64]), [0, 1])

    def test_the_same_acts_in_another_order(self):
        self.assertEqual(same(2, [64, 0], [0, 64]), [0, 0])
        self.assertEqual(same(2, [64, 1], [1, 64]), [0, 0])
        self.assertEqual(same(2, [64, 0, 1, 64], [0, 64, 64, 1]), [0, 0])
        self.assertEqual(same(3, [1, 65, 2, 0], [0, 65, 1, 2]), [0, 0])

    def test_another_number_of_acts(self):
        self.assertEqual(same(1, [0], []), [0, 0])
        self.assertEqual(same(1, [0], [0, 0]), [0, 0])
        self.assertEqual(same(2, [64, 0, 1, 64], [64, 0, 1]), [0, 0])
        self.assertEqual(same(2, [0, 1], [1, 0, 1]), [0, 0])

    def test_other_acts(self):
        self.assertEqual(same(2, [0], [1]), [0, 0])
        self.assertEqual(same(2, [0], [64]), [0, 0])
        self.assertEqual(same(3, [64, 64], [64, 65]), [0, 0])

    def test_the_same_end_is_not_the_same_lace(self):
        one, other = [0, 64, 0], [64, 0, 64]
        self.assertEqual(ends(2, one), ends(2, other))
        self.assertEqual(same(2, one, other), [0, 0])
        self.assertEqual(same(2, [0, 0], []), [0, 0])

    def test_against_all_workings_of_the_lace(self):
        for n, one, other in short_pairs():
            expected = 1 if tuple(other) in lace_of(one) else 0
            self.assertEqual(same(n, one, other), [0, expected], (n, one, other))

    def test_against_all_workings_of_longer_laces(self):
        met = []
        for n, one, other in drawn_pairs((4, 7), 16):
            expected = 1 if tuple(other) in lace_of(one) else 0
            self.assertEqual(same(n, one, other), [0, expected], (n, one, other))
            met.append(expected)
        self.assertEqual(set(met), {0, 1})


class LongWorkings(unittest.TestCase):
    def test_stirred(self):
        for n in (2, 3, 9, 32):
            for length in (50, 512):
                working = some_working(n, length, n + length)
                self.assertEqual(same(n, working, stirred(working, n)), [0, 1])

    def test_two_acts_that_touch_changed(self):
        for n in (2, 3, 9):
            working = some_working(n, 100, n)
            for k in range(99):
                other = working[:k] + [working[k + 1], working[k]] + working[k + 2:]
                self.assertEqual(same(n, working, other), [0, 1 if form(n, working) == form(n, other) else 0])


class ByTheWays(unittest.TestCase):
    def test_just_if_the_ways_of_each_thread_are_the_same(self):
        for n, one, other in short_pairs():
            alike = all(thread(n, t, one) == thread(n, t, other) for t in range(2 * n))
            self.assertEqual(same(n, one, other), [0, 1 if alike else 0], (n, one, other))


class Bounds(unittest.TestCase):
    def test_pairs(self):
        for n in PAIRS_OUT_OF_BOUNDS:
            self.assertEqual(same(n, [], []), [-1])
            self.assertEqual(same(n, [0], [0]), [-1])
        self.assertEqual(same(1, [0, 0], [0, 0]), [0, 1])
        self.assertEqual(same(32, [94, 0], [0, 94]), [0, 1])
        self.assertEqual(same(32, [94, 31], [31, 94]), [0, 0])

    def test_empty_workings(self):
        for n in range(1, 33):
            self.assertEqual(same(n, [], []), [0, 1])
            self.assertEqual(same(n, [], [0]), [0, 0])
            self.assertEqual(same(n, [0], []), [0, 0])

    def test_length(self):
        self.assertEqual(same(1, [0] * 512, [0] * 512), [0, 1])
        self.assertEqual(same(1, [0] * 512, [0] * 511), [0, 0])
        self.assertEqual(same(2, [0, 1] * 256, [1, 0] * 256), [0, 1])
        for length in (513, 600):
            self.assertEqual(same(1, [0] * length, [0]), [-1])
            self.assertEqual(same(1, [0], [0] * length), [-1])
            self.assertEqual(same(1, [0] * length, [0] * length), [-1])


class Refusals(unittest.TestCase):
    def test_no_act_in_a_or_in_b(self):
        for n in range(1, 33):
            for number in (n, 63, 64 + n - 1, 95, 128, 255):
                self.assertEqual(same(n, [number], []), [-5])
                self.assertEqual(same(n, [], [0, number]), [-5])
                self.assertEqual(same(n, [number], [number]), [-5])
        self.assertEqual(same(3, [0] * 511 + [3], [0] * 511 + [66]), [-5])

    def test_bounds_go_ahead_of_no_act(self):
        self.assertEqual(same(4, [255], [0] * 513), [-1])
        self.assertEqual(same(4, [0] * 513, [255]), [-1])
        self.assertEqual(same(4, [255], [255] * 600), [-1])
        for n in PAIRS_OUT_OF_BOUNDS:
            self.assertEqual(same(n, [255], [255]), [-1])


if __name__ == "__main__":
    unittest.main()
