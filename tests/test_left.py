import unittest

from bobbinlace.desk import common, form, left, same
from helpers import (
    PAIRS_OUT_OF_BOUNDS, drawn_pairs, each_working, lace_of, short_pairs, slow_form, slow_left, some_working, split_off,
    stirred,
)


def told(one, other):
    expected = slow_left(one, other)
    return [-6] if expected is None else [0] + expected


class OrdinaryWorkings(unittest.TestCase):
    def test_a_beginning(self):
        self.assertEqual(left(2, [64], [64, 0, 1, 64]), [0, 0, 1, 64])
        self.assertEqual(left(2, [64, 1], [64, 0, 1, 64]), [0, 0, 64])
        self.assertEqual(left(2, [64, 1, 0], [64, 0, 1, 64]), [0, 64])
        self.assertEqual(left(3, [2], [64, 0, 2]), [0, 64, 0])
        self.assertEqual(left(3, [64], [2, 64, 0]), [0, 0, 2])
        self.assertEqual(left(1, [0], [0, 0, 0]), [0, 0, 0])

    def test_what_is_left_is_put_in_its_form(self):
        self.assertEqual(left(4, [66], [66, 3, 2, 65, 0]), [0, 0, 2, 3, 65])
        self.assertEqual(left(3, [65], [65, 64, 0, 2]), [0, 2, 64, 0])

    def test_a_is_empty(self):
        self.assertEqual(left(2, [], [64, 1, 0, 64]), [0, 64, 0, 1, 64])
        self.assertEqual(left(3, [], [64, 0, 2]), [0, 2, 64, 0])

    def test_a_is_the_lace_b(self):
        self.assertEqual(left(2, [64, 1, 0, 64], [64, 0, 1, 64]), [0])
        self.assertEqual(left(3, [64, 0, 2], [2, 64, 0]), [0])
        self.assertEqual(left(1, [0], [0]), [0])

    def test_a_is_no_beginning(self):
        self.assertEqual(left(2, [0], [64, 0]), [-6])
        self.assertEqual(left(2, [0, 64], [64, 0, 1, 64]), [-6])
        self.assertEqual(left(2, [64, 0, 0], [64, 0, 1, 64]), [-6])
        self.assertEqual(left(2, [1], [0]), [-6])
        self.assertEqual(left(2, [0], []), [-6])
        self.assertEqual(left(3, [64, 65], [64, 0, 2, 65]), [-6])

    def test_a_is_longer_than_b(self):
        self.assertEqual(left(1, [0, 0], [0]), [-6])
        self.assertEqual(left(2, [64, 0, 1, 64], [64, 0, 1]), [-6])
        self.assertEqual(left(32, [0] * 512, [0] * 511), [-6])

    def test_against_all_workings_of_the_lace(self):
        for n, one, other in short_pairs():
            self.assertEqual(left(n, one, other), told(one, other), (n, one, other))

    def test_against_all_workings_of_longer_laces(self):
        for n, one, other in drawn_pairs((5, 7), 14):
            for length in range(len(one) + 1):
                a = one[:length]
                self.assertEqual(left(n, a, other), told(a, other), (n, a, other))
                self.assertEqual(left(n, a, one), told(a, one), (n, a, one))

    def test_put_behind_it_gives_the_lace_back(self):
        for n in (2, 3):
            for working in each_working(n, 4):
                for one in lace_of(working):
                    for length in range(len(one) + 1):
                        a = list(one[:length])
                        found = left(n, a, working)
                        self.assertEqual(found[0], 0)
                        self.assertEqual(same(n, a + found[1:], working), [0, 1])


class LongWorkings(unittest.TestCase):
    def test_against_a_slow_search(self):
        for n in (1, 2, 3, 9, 32):
            begun = some_working(n, 200, n)
            behind = some_working(n, 312, n + 1)
            whole = stirred(begun + behind, 1)
            self.assertEqual(left(n, stirred(begun, 2), whole), [0] + slow_form(behind))
            if n > 1:
                self.assertEqual(left(n, begun + [behind[0]] * 100, whole), [-6])

    def test_behind_the_common_beginning(self):
        for n in (2, 3, 9, 32):
            alike = some_working(n, 100, n)
            one = stirred(alike + some_working(n, 300, n + 1), 1)
            other = stirred(alike + some_working(n, 200, n + 2), 2)
            expected = split_off(one, other)
            found = common(n, one, other)[1:]
            self.assertEqual(left(n, found, one), [0] + slow_form(expected[1]))
            self.assertEqual(left(n, found, other), [0] + slow_form(expected[2]))
            self.assertEqual(left(n, one, other), [-6])
            self.assertEqual(left(n, other, one), [-6])


class Bounds(unittest.TestCase):
    def test_pairs(self):
        for n in PAIRS_OUT_OF_BOUNDS:
            self.assertEqual(left(n, [], []), [-1])
            self.assertEqual(left(n, [0], [0]), [-1])
            self.assertEqual(left(n, [0], []), [-1])
        self.assertEqual(left(1, [0], [0, 0]), [0, 0])
        self.assertEqual(left(32, [94], [0, 94, 31]), [0, 0, 31])

    def test_empty_workings(self):
        for n in range(1, 33):
            self.assertEqual(left(n, [], []), [0])
            self.assertEqual(left(n, [], [0]), [0, 0])
            self.assertEqual(left(n, [0], []), [-6])

    def test_length(self):
        self.assertEqual(left(1, [0] * 512, [0] * 512), [0])
        self.assertEqual(left(1, [0] * 511, [0] * 512), [0, 0])
        self.assertEqual(left(1, [], [0] * 512), [0] + [0] * 512)
        working = some_working(5, 512, 5)
        self.assertEqual(left(5, [], working), form(5, working))
        for length in (513, 600):
            self.assertEqual(left(1, [0] * length, [0]), [-1])
            self.assertEqual(left(1, [0], [0] * length), [-1])
            self.assertEqual(left(1, [0] * length, [0] * length), [-1])


class Refusals(unittest.TestCase):
    def test_no_act_in_a_or_in_b(self):
        for n in range(1, 33):
            for number in (n, 63, 64 + n - 1, 95, 128, 255):
                self.assertEqual(left(n, [number], [0]), [-5])
                self.assertEqual(left(n, [], [0, number]), [-5])
                self.assertEqual(left(n, [number], [number]), [-5])

    def test_bounds_go_ahead_of_no_act(self):
        self.assertEqual(left(4, [255], [0] * 513), [-1])
        self.assertEqual(left(4, [0] * 513, [255]), [-1])
        self.assertEqual(left(4, [255], [255] * 600), [-1])
        for n in PAIRS_OUT_OF_BOUNDS:
            self.assertEqual(left(n, [255], [255]), [-1])

    def test_no_act_goes_ahead_of_no_beginning(self):
        self.assertEqual(left(3, [1, 1], [0, 255]), [-5])
        self.assertEqual(left(3, [0, 0, 0], [66]), [-5])
        self.assertEqual(left(3, [0, 3], []), [-5])

    def test_bounds_go_ahead_of_no_beginning(self):
        self.assertEqual(left(3, [1], [0] * 513), [-1])
        self.assertEqual(left(3, [1] * 513, [0]), [-1])


if __name__ == "__main__":
    unittest.main()
