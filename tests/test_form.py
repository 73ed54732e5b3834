import unittest

from bobbinlace.desk import form, thread
from helpers import (
    PAIRS_OUT_OF_BOUNDS, acts_of, each_working, lace_of, slow_form, some_working, stirred,
)


class OrdinaryWorkings(unittest.TestCase):
    def test_acts_that_do_not_touch_come_in_the_order_of_their_numbers(self):
        self.assertEqual(form(2, [1, 0]), [0, 0, 1])
        self.assertEqual(form(3, [2, 1, 0]), [0, 0, 1, 2])
        self.assertEqual(form(3, [64, 2]), [0, 2, 64])
        self.assertEqual(form(4, [66, 64, 65]), [0, 64, 65, 66])
        self.assertEqual(form(4, [66, 0, 64]), [0, 0, 64, 66])

    def test_acts_that_touch_stay(self):
        self.assertEqual(form(2, [64, 0]), [0, 64, 0])
        self.assertEqual(form(2, [64, 1]), [0, 64, 1])
        self.assertEqual(form(3, [65, 1, 65, 2]), [0, 65, 1, 65, 2])
        self.assertEqual(form(1, [0, 0, 0]), [0, 0, 0, 0])

    def test_a_lesser_act_passes_only_what_it_does_not_touch(self):
        self.assertEqual(form(2, [64, 1, 0, 64]), [0, 64, 0, 1, 64])
        self.assertEqual(form(3, [65, 0]), [0, 0, 65])
        self.assertEqual(form(4, [66, 3, 65, 0, 64]), [0, 0, 64, 65, 66, 3])
        self.assertEqual(form(4, [66, 2, 0, 1]), [0, 0, 1, 66, 2])

    def test_the_least_is_not_found_by_changing_neighbours_alone(self):
        # In [64, 0, 2] the neighbours touch or stand in order; still the 2 can come to the front.
        self.assertEqual(form(3, [64, 0, 2]), [0, 2, 64, 0])
        self.assertEqual(form(3, [64, 2, 0]), [0, 2, 64, 0])
        self.assertEqual(form(3, [2, 64, 0]), [0, 2, 64, 0])
        self.assertEqual(form(5, [67, 3, 64, 0, 2]), [0, 2, 64, 0, 67, 3])

    def test_against_all_workings_of_the_lace(self):
        for n, most in ((1, 6), (2, 6), (3, 5), (4, 4), (5, 3)):
            for working in each_working(n, most):
                expected = list(min(lace_of(working)))
                self.assertEqual(form(n, working), [0] + expected, (n, working))

    def test_against_all_workings_of_longer_laces(self):
        for n in (3, 4, 5, 6):
            for seed in range(20):
                working = some_working(n, 8, 50 * n + seed)
                lace = lace_of(working)
                for other in sorted(lace)[::5]:
                    self.assertEqual(form(n, list(other)), [0] + list(min(lace)), other)

    def test_long_workings(self):
        for n in (1, 2, 3, 8, 17, 31, 32):
            for length in (30, 100, 512):
                working = some_working(n, length, 9 * n + length)
                self.assertEqual(form(n, working), [0] + slow_form(working), (n, length))


class OneLaceOneForm(unittest.TestCase):
    def test_lawful_changes_leave_the_form(self):
        for n in (2, 3, 6, 32):
            for length in (10, 80, 512):
                working = some_working(n, length, n + length)
                expected = form(n, working)
                for seed in (1, 2):
                    other = stirred(working, seed)
                    self.assertEqual(form(n, other), expected)

    def test_the_form_is_this_lace(self):
        for n in (2, 3, 6, 32):
            working = some_working(n, 512, 11 * n)
            found = form(n, working)[1:]
            for t in range(2 * n):
                self.assertEqual(thread(n, t, found), thread(n, t, working))

    def test_the_form_of_the_form(self):
        for n in (2, 3, 6, 32):
            found = form(n, some_working(n, 512, 13 * n))
            self.assertEqual(form(n, found[1:]), found)


class Bounds(unittest.TestCase):
    def test_pairs(self):
        for n in PAIRS_OUT_OF_BOUNDS:
            self.assertEqual(form(n, []), [-1])
            self.assertEqual(form(n, [0]), [-1])
        self.assertEqual(form(1, [0, 0]), [0, 0, 0])
        self.assertEqual(form(32, [94, 31, 0]), [0, 0, 94, 31])

    def test_the_empty_working(self):
        for n in range(1, 33):
            self.assertEqual(form(n, []), [0])

    def test_every_act_backwards(self):
        for n in range(1, 33):
            working = acts_of(n)[::-1]
            self.assertEqual(form(n, working), [0] + slow_form(working))

    def test_length(self):
        self.assertEqual(form(1, [0] * 511), [0] + [0] * 511)
        self.assertEqual(form(1, [0] * 512), [0] + [0] * 512)
        self.assertEqual(form(1, [0] * 513), [-1])
        self.assertEqual(form(1, [0] * 600), [-1])
        self.assertEqual(form(32, [94] * 256 + [0] * 256), [0] + [0] * 256 + [94] * 256)
        self.assertEqual(form(32, [94] * 257 + [0] * 256), [-1])

    def test_greatest_acts_and_the_numbers_beyond(self):
        for n in range(1, 33):
            self.assertEqual(form(n, [n - 1]), [0, n - 1])
            self.assertEqual(form(n, [n]), [-5])
            if n > 1:
                self.assertEqual(form(n, [64 + n - 2]), [0, 64 + n - 2])
            self.assertEqual(form(n, [64 + n - 1]), [-5])


class Refusals(unittest.TestCase):
    def test_no_act_is_refused_by_its_number_alone(self):
        self.assertEqual(form(1, [64]), [-5])
        self.assertEqual(form(1, [0, 0, 1]), [-5])
        self.assertEqual(form(3, [0, 3, 66, 255]), [-5])
        self.assertEqual(form(32, [63]), [-5])
        self.assertEqual(form(32, [128]), [-5])
        self.assertEqual(form(32, [0] * 511 + [255]), [-5])

    def test_bounds_go_ahead_of_no_act(self):
        self.assertEqual(form(4, [255] * 513), [-1])
        self.assertEqual(form(4, [255] + [0] * 512), [-1])
        self.assertEqual(form(4, [0] * 599 + [67]), [-1])
        for n in PAIRS_OUT_OF_BOUNDS:
            self.assertEqual(form(n, [255]), [-1])


if __name__ == "__main__":
    unittest.main()
