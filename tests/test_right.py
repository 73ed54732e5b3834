import unittest

from bobbinlace.desk import right
from helpers import GREATEST, acts_of


class OrdinaryWorkings(unittest.TestCase):
    def test_twists_and_crosses(self):
        self.assertEqual(right(2, [64, 0, 1, 64]), [0])
        self.assertEqual(right(3, [0, 65, 2, 64, 1, 1, 65]), [0])
        self.assertEqual(right(5, [4, 67, 3, 66, 0, 64]), [0])
        self.assertEqual(right(32, [31, 94, 0, 64]), [0])

    def test_each_number_for_each_number_of_pairs(self):
        for n in range(1, 33):
            acts = acts_of(n)
            for number in range(256):
                expected = [0] if number in acts else [-5, 0]
                self.assertEqual(right(n, [number]), expected, (n, number))

    def test_the_empty_working(self):
        for n in range(1, 33):
            self.assertEqual(right(n, []), [0])


class Bounds(unittest.TestCase):
    def test_pairs(self):
        self.assertEqual(right(0, []), [-1])
        self.assertEqual(right(1, [0]), [0])
        self.assertEqual(right(32, [0]), [0])
        self.assertEqual(right(33, [0]), [-1])
        self.assertEqual(right(64, [0]), [-1])
        self.assertEqual(right(256, []), [-1])
        self.assertEqual(right(GREATEST, []), [-1])
        self.assertEqual(right(GREATEST, [0, 64]), [-1])

    def test_length(self):
        for n, act in ((1, 0), (2, 64), (32, 94)):
            self.assertEqual(right(n, [act] * 511), [0])
            self.assertEqual(right(n, [act] * 512), [0])
            self.assertEqual(right(n, [act] * 513), [-1])
            self.assertEqual(right(n, [act] * 600), [-1])


class NoActs(unittest.TestCase):
    def test_one_pair_has_no_cross(self):
        self.assertEqual(right(1, [0, 0, 64]), [-5, 2])
        self.assertEqual(right(1, [64]), [-5, 0])
        self.assertEqual(right(1, [1]), [-5, 0])

    def test_greatest_acts_and_the_numbers_beyond(self):
        self.assertEqual(right(2, [1, 64]), [0])
        self.assertEqual(right(2, [1, 2]), [-5, 1])
        self.assertEqual(right(2, [64, 65]), [-5, 1])
        self.assertEqual(right(32, [31, 94]), [0])
        self.assertEqual(right(32, [31, 32]), [-5, 1])
        self.assertEqual(right(32, [63]), [-5, 0])
        self.assertEqual(right(32, [94, 95]), [-5, 1])

    def test_numbers_far_beyond(self):
        for n in (1, 2, 17, 32):
            self.assertEqual(right(n, [0, 128]), [-5, 1])
            self.assertEqual(right(n, [0, 0, 192]), [-5, 2])
            self.assertEqual(right(n, [0, 0, 0, 255]), [-5, 3])

    def test_the_first_of_several_is_told(self):
        self.assertEqual(right(3, [0, 3, 66, 255]), [-5, 1])
        self.assertEqual(right(3, [255, 64, 3]), [-5, 0])
        self.assertEqual(right(3, [2, 65, 66, 3, 0, 255]), [-5, 2])

    def test_the_last_of_512(self):
        self.assertEqual(right(4, [66] * 511 + [67]), [-5, 511])


class Order(unittest.TestCase):
    def test_length_goes_ahead_of_no_act(self):
        self.assertEqual(right(4, [255] * 513), [-1])
        self.assertEqual(right(4, [255] + [0] * 512), [-1])
        self.assertEqual(right(4, [0] * 599 + [67]), [-1])
        self.assertEqual(right(4, [255] + [0] * 511), [-5, 0])

    def test_pairs_go_ahead_of_no_act(self):
        for n in (0, 33, GREATEST):
            self.assertEqual(right(n, [255]), [-1])
            self.assertEqual(right(n, [0, 63, 127]), [-1])

    def test_both_bounds_at_once(self):
        self.assertEqual(right(0, [255] * 600), [-1])
        self.assertEqual(right(33, [0] * 513), [-1])


if __name__ == "__main__":
    unittest.main()
