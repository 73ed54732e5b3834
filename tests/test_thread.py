import unittest

from bobbinlace.desk import thread
from helpers import GREATEST, PAIRS_OUT_OF_BOUNDS, acts_of, crossings_of, lawful_changes, some_working


def told(n, t, working):
    return [0] + [other + 128 if over else other for other, over in crossings_of(n, t, working)]


class OrdinaryWorkings(unittest.TestCase):
    def test_at_a_twist_the_right_thread_goes_over(self):
        self.assertEqual(thread(1, 0, [0]), [0, 1])
        self.assertEqual(thread(1, 1, [0]), [0, 128])
        self.assertEqual(thread(3, 4, [2]), [0, 5])
        self.assertEqual(thread(3, 5, [2]), [0, 132])

    def test_at_a_cross_the_left_thread_goes_over(self):
        self.assertEqual(thread(2, 1, [64]), [0, 130])
        self.assertEqual(thread(2, 2, [64]), [0, 1])
        self.assertEqual(thread(3, 3, [65]), [0, 132])
        self.assertEqual(thread(3, 4, [65]), [0, 3])

    def test_over_and_under_hang_on_the_places_of_the_time(self):
        self.assertEqual(thread(1, 0, [0, 0]), [0, 1, 129])
        self.assertEqual(thread(1, 1, [0, 0]), [0, 128, 0])
        self.assertEqual(thread(2, 1, [64, 64]), [0, 130, 2])
        self.assertEqual(thread(2, 2, [64, 64]), [0, 1, 129])

    def test_each_thread_of_a_cloth_stitch(self):
        working = [64, 0, 1, 64]
        self.assertEqual(thread(2, 0, working), [0, 2, 131])
        self.assertEqual(thread(2, 1, working), [0, 130, 3])
        self.assertEqual(thread(2, 2, working), [0, 1, 128])
        self.assertEqual(thread(2, 3, working), [0, 129, 0])

    def test_one_thread_goes_through_to_the_right(self):
        working = [0]
        for k in range(31):
            working.extend([64 + k, k + 1])
        expected = [0, 1]
        for k in range(31):
            expected.extend([128 + 2 * k + 2, 2 * k + 3])
        self.assertEqual(thread(32, 0, working), expected)
        self.assertEqual(thread(32, 63, working), [0, 128])
        self.assertEqual(thread(32, 62, working), [0, 0])

    def test_a_thread_without_crossings(self):
        self.assertEqual(thread(2, 0, [64]), [0])
        self.assertEqual(thread(2, 3, [64]), [0])
        self.assertEqual(thread(2, 2, [0, 0, 0]), [0])
        self.assertEqual(thread(32, 63, [94]), [0])

    def test_each_thread_of_drawn_workings(self):
        for n, length in ((1, 9), (2, 1), (2, 12), (3, 25), (5, 40), (8, 30), (17, 40), (32, 60)):
            working = some_working(n, length, 7 * n + length)
            for t in range(2 * n):
                self.assertEqual(thread(n, t, working), told(n, t, working), (n, t, working))

    def test_each_act_alone(self):
        for n in (1, 2, 3, 32):
            for act in acts_of(n):
                for t in range(2 * n):
                    self.assertEqual(thread(n, t, [act]), told(n, t, [act]), (n, t, act))

    def test_each_crossing_is_told_by_both_threads(self):
        for n in (2, 4, 32):
            working = some_working(n, 512, n)
            ways = [thread(n, t, working)[1:] for t in range(2 * n)]
            self.assertEqual(sum(len(way) for way in ways), 2 * 512)
            for one in range(2 * n):
                for other in range(2 * n):
                    above = [number >= 128 for number in ways[one] if number % 128 == other]
                    below = [number < 128 for number in ways[other] if number % 128 == one]
                    self.assertEqual(above, below)

    def test_lawful_changes_leave_the_ways(self):
        working = some_working(4, 40, 3)
        changed = list(lawful_changes(working))
        self.assertGreater(len(changed), 10)
        for other in changed:
            for t in range(8):
                self.assertEqual(thread(4, t, other), thread(4, t, working))


class Bounds(unittest.TestCase):
    def test_pairs(self):
        for n in PAIRS_OUT_OF_BOUNDS:
            for t in (0, 1, 2 * n - 1, 2 * n, GREATEST):
                self.assertEqual(thread(n, max(t, 0), []), [-1])
                self.assertEqual(thread(n, max(t, 0), [0]), [-1])
        self.assertEqual(thread(1, 0, []), [0])
        self.assertEqual(thread(1, 0, [0]), [0, 1])
        self.assertEqual(thread(32, 0, [0]), [0, 1])

    def test_threads(self):
        for n in range(1, 33):
            working = acts_of(n)
            self.assertEqual(thread(n, 0, working), told(n, 0, working))
            self.assertEqual(thread(n, 2 * n - 1, working), told(n, 2 * n - 1, working))
            self.assertEqual(thread(n, 2 * n, working), [-1])
            self.assertEqual(thread(n, 2 * n + 1, working), [-1])
            self.assertEqual(thread(n, GREATEST, working), [-1])
            self.assertEqual(thread(n, 2 * n, []), [-1])

    def test_the_empty_working(self):
        for n in range(1, 33):
            for t in range(2 * n):
                self.assertEqual(thread(n, t, []), [0])

    def test_length(self):
        self.assertEqual(thread(1, 0, [0] * 511), [0] + [1, 129] * 255 + [1])
        self.assertEqual(thread(1, 0, [0] * 512), [0] + [1, 129] * 256)
        self.assertEqual(thread(1, 1, [0] * 512), [0] + [128, 0] * 256)
        self.assertEqual(thread(1, 0, [0] * 513), [-1])
        self.assertEqual(thread(1, 0, [0] * 600), [-1])
        self.assertEqual(thread(2, 0, [64] * 512), [0])
        self.assertEqual(thread(2, 0, [64] * 513), [-1])

    def test_greatest_acts_and_the_numbers_beyond(self):
        self.assertEqual(thread(32, 63, [31]), [0, 128 + 62])
        self.assertEqual(thread(32, 62, [94]), [0, 61])
        for n in range(1, 33):
            self.assertEqual(thread(n, 0, [n]), [-5])
            self.assertEqual(thread(n, 0, [64 + n - 1]), [-5])


class Refusals(unittest.TestCase):
    def test_no_act_is_refused_by_its_number_alone(self):
        self.assertEqual(thread(1, 0, [64]), [-5])
        self.assertEqual(thread(1, 1, [0, 0, 1]), [-5])
        self.assertEqual(thread(3, 5, [0, 3, 66, 255]), [-5])
        self.assertEqual(thread(32, 0, [63]), [-5])
        self.assertEqual(thread(32, 0, [128]), [-5])
        self.assertEqual(thread(32, 0, [0] * 511 + [255]), [-5])

    def test_no_thread_goes_ahead_of_no_act(self):
        self.assertEqual(thread(3, 6, [255]), [-1])
        self.assertEqual(thread(3, GREATEST, [0, 3]), [-1])
        self.assertEqual(thread(3, 5, [255]), [-5])
        self.assertEqual(thread(32, 64, [95]), [-1])

    def test_length_goes_ahead_of_no_act(self):
        self.assertEqual(thread(4, 0, [255] * 513), [-1])
        self.assertEqual(thread(4, 0, [255] + [0] * 512), [-1])
        self.assertEqual(thread(4, 7, [0] * 599 + [67]), [-1])
        self.assertEqual(thread(4, 8, [255] * 600), [-1])

    def test_pairs_go_ahead_of_no_act(self):
        for n in PAIRS_OUT_OF_BOUNDS:
            self.assertEqual(thread(n, 0, [255]), [-1])


if __name__ == "__main__":
    unittest.main()
