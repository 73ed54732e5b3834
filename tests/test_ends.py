import unittest

from bobbinlace.desk import ends
from helpers import GREATEST, lawful_changes, place_of_thread, some_working


def followed(n, working):
    threads = [None] * (2 * n)
    for thread in range(2 * n):
        threads[place_of_thread(thread, working)] = thread
    return threads


class OrdinaryWorkings(unittest.TestCase):
    def test_single_acts(self):
        self.assertEqual(ends(1, [0]), [0, 1, 0])
        self.assertEqual(ends(2, [0]), [0, 1, 0, 2, 3])
        self.assertEqual(ends(2, [1]), [0, 0, 1, 3, 2])
        self.assertEqual(ends(2, [64]), [0, 0, 2, 1, 3])
        self.assertEqual(ends(3, [65]), [0, 0, 1, 2, 4, 3, 5])

    def test_one_act_after_another(self):
        self.assertEqual(ends(2, [0, 64]), [0, 1, 2, 0, 3])
        self.assertEqual(ends(2, [64, 0]), [0, 2, 0, 1, 3])
        self.assertEqual(ends(2, [0, 64, 1]), [0, 1, 2, 3, 0])
        self.assertEqual(ends(3, [64, 65, 1]), [0, 0, 2, 4, 1, 3, 5])

    def test_a_cloth_stitch_changes_two_pairs(self):
        self.assertEqual(ends(2, [64, 0, 1, 64]), [0, 2, 3, 0, 1])

    def test_one_thread_goes_through_to_the_right(self):
        working = [0]
        for k in range(31):
            working.extend([64 + k, k + 1])
        self.assertEqual(ends(32, working), [0] + list(range(1, 64)) + [0])

    def test_an_act_made_twice_leaves_the_threads(self):
        for act in (0, 3, 64, 66):
            self.assertEqual(ends(4, [act, act]), [0] + list(range(8)))

    def test_like_each_thread_followed_alone(self):
        for n in range(1, 33):
            for length in (1, 2, 7, 40, 512):
                working = some_working(n, length, 100 * n + length)
                self.assertEqual(ends(n, working), [0] + followed(n, working), (n, working))

    def test_lawful_changes_leave_the_end(self):
        working = some_working(6, 60, 5)
        changed = list(lawful_changes(working))
        self.assertGreater(len(changed), 10)
        for other in changed:
            self.assertEqual(ends(6, other), ends(6, working))


class Bounds(unittest.TestCase):
    def test_the_empty_working(self):
        for n in range(1, 33):
            self.assertEqual(ends(n, []), [0] + list(range(2 * n)))

    def test_pairs(self):
        self.assertEqual(ends(0, []), [-1])
        self.assertEqual(ends(1, []), [0, 0, 1])
        self.assertEqual(len(ends(32, [31, 94])), 65)
        self.assertEqual(ends(33, []), [-1])
        self.assertEqual(ends(33, [0]), [-1])
        self.assertEqual(ends(256, [0]), [-1])
        self.assertEqual(ends(GREATEST, []), [-1])
        self.assertEqual(ends(GREATEST, [0, 64]), [-1])

    def test_length(self):
        self.assertEqual(ends(1, [0] * 511), [0, 1, 0])
        self.assertEqual(ends(1, [0] * 512), [0, 0, 1])
        self.assertEqual(ends(1, [0] * 513), [-1])
        self.assertEqual(ends(1, [0] * 600), [-1])
        self.assertEqual(ends(2, [0] + [64] * 511), [0, 1, 2, 0, 3])
        self.assertEqual(ends(2, [0] + [64] * 512), [-1])

    def test_greatest_acts(self):
        self.assertEqual(ends(32, [31]), [0] + list(range(62)) + [63, 62])
        self.assertEqual(ends(32, [94]), [0] + list(range(61)) + [62, 61, 63])
        self.assertEqual(ends(3, [2]), [0, 0, 1, 2, 3, 5, 4])


class Refusals(unittest.TestCase):
    def test_no_act_is_refused_by_its_number_alone(self):
        self.assertEqual(ends(1, [64]), [-5])
        self.assertEqual(ends(1, [0, 0, 1]), [-5])
        self.assertEqual(ends(2, [64, 65]), [-5])
        self.assertEqual(ends(3, [0, 3, 66, 255]), [-5])
        self.assertEqual(ends(32, [31, 32]), [-5])
        self.assertEqual(ends(32, [63]), [-5])
        self.assertEqual(ends(32, [94, 95]), [-5])
        self.assertEqual(ends(32, [0] * 511 + [255]), [-5])

    def test_each_number_for_each_number_of_pairs(self):
        for n in range(1, 33):
            for number in range(256):
                twist = number < n
                cross = 64 <= number <= 64 + n - 2
                expected = [0] + followed(n, [number]) if twist or cross else [-5]
                self.assertEqual(ends(n, [number]), expected, (n, number))

    def test_bounds_go_ahead_of_no_act(self):
        self.assertEqual(ends(4, [255] * 513), [-1])
        self.assertEqual(ends(4, [255] + [0] * 512), [-1])
        self.assertEqual(ends(4, [0] * 599 + [67]), [-1])
        for n in (0, 33, GREATEST):
            self.assertEqual(ends(n, [255]), [-1])
        self.assertEqual(ends(0, [255] * 600), [-1])


if __name__ == "__main__":
    unittest.main()
