import unittest

from bobbinlace.desk import form, joined, left
from helpers import (
    PAIRS_OUT_OF_BOUNDS, SHORT, beginnings_of, drawn_pairs, each_working, short_pairs, slow_form, some_working,
    split_off, stirred, touch,
)


def told(one, other):
    """The joined one as the document makes it of the common beginning and both lefts."""
    begun, rest, other_rest = split_off(one, other)
    if any(touch(act, other_act) for act in rest for other_act in other_rest):
        return [-6]
    return [0] + slow_form(begun + rest + other_rest)


def moved(working, pairs):
    """The same working, so many pairs further to the right."""
    return [act + pairs for act in working]


class OrdinaryWorkings(unittest.TestCase):
    def test_a_beginning_of_the_other(self):
        self.assertEqual(joined(2, [64, 1], [64, 0, 1, 64]), [0, 64, 0, 1, 64])
        self.assertEqual(joined(2, [64, 1, 0, 64], [64]), [0, 64, 0, 1, 64])
        self.assertEqual(joined(3, [2], [64, 0, 2]), [0, 2, 64, 0])
        self.assertEqual(joined(1, [0], [0, 0]), [0, 0, 0])

    def test_the_same_lace_twice(self):
        self.assertEqual(joined(2, [64, 1, 0], [64, 0, 1]), [0, 64, 0, 1])
        self.assertEqual(joined(3, [64, 0, 2], [64, 0, 2]), [0, 2, 64, 0])

    def test_lefts_that_touch(self):
        self.assertEqual(joined(2, [0], [64]), [-6])
        self.assertEqual(joined(2, [64], [1]), [-6])
        self.assertEqual(joined(2, [64, 0], [0, 64]), [-6])
        self.assertEqual(joined(2, [64, 0, 64], [64, 1, 64]), [-6])
        self.assertEqual(joined(3, [0, 2, 65], [0, 1]), [-6])
        # Only the last acts touch: the twist 1 and the cross 65.
        self.assertEqual(joined(4, [0, 64, 1], [3, 66, 65]), [-6])

    def test_the_same_act_left_on_both_sides_touches_itself(self):
        self.assertEqual(joined(3, [64, 0, 2], [0, 2]), [-6])
        self.assertEqual(joined(2, [0, 64, 1], [1, 64, 0]), [-6])

    def test_lefts_that_do_not_touch(self):
        self.assertEqual(joined(2, [1], [0]), [0, 0, 1])
        self.assertEqual(joined(2, [64, 0], [64, 1]), [0, 64, 0, 1])
        self.assertEqual(joined(3, [64], [2]), [0, 2, 64])
        self.assertEqual(joined(3, [64, 0], [2, 2]), [0, 2, 2, 64, 0])
        self.assertEqual(joined(4, [66, 0, 3], [66, 0, 64]), [0, 0, 64, 66, 3])

    def test_against_all_workings_that_begin_with_both(self):
        for n, most in SHORT:
            found = {}
            for working in each_working(n, 2 * most):
                beginnings = beginnings_of(working)
                short = [one for one in beginnings if len(one) <= most]
                for one in short:
                    for other in short:
                        # The workings come the short ones first, and each length in the order of the numbers.
                        if (one, other) not in found:
                            found[one, other] = tuple(working)
                            self.assertEqual(joined(n, list(one), list(other)), [0] + working, (n, one, other))
                        self.assertIn(found[one, other], beginnings)
            for one in each_working(n, most):
                for other in each_working(n, most):
                    if (tuple(one), tuple(other)) not in found:
                        self.assertEqual(joined(n, one, other), [-6], (n, one, other))

    def test_as_made_of_the_common_beginning_and_both_lefts(self):
        for n, one, other in short_pairs():
            self.assertEqual(joined(n, one, other), told(one, other), (n, one, other))
        met = set()
        for n, one, other in drawn_pairs((3, 5, 8), 18):
            found = joined(n, one, other)
            self.assertEqual(found, told(one, other), (n, one, other))
            self.assertEqual(joined(n, other, one), found)
            met.add(found[0])
        self.assertEqual(met, {0, -6})

    def test_it_begins_with_both(self):
        for n, one, other in drawn_pairs((3, 6, 20), 20):
            found = joined(n, one, other)
            if found[0] == 0:
                self.assertEqual(left(n, one, found[1:])[0], 0)
                self.assertEqual(left(n, other, found[1:])[0], 0)


class LongWorkings(unittest.TestCase):
    def test_more_than_512_acts(self):
        self.assertEqual(joined(32, [31] * 512, [0] * 512), [0] + [0] * 512 + [31] * 512)
        self.assertEqual(joined(3, [64] * 512, [2] * 512), [0] + [2] * 512 + [64] * 512)
        one = some_working(12, 512, 1)
        other = moved(some_working(12, 512, 2), 20)
        self.assertEqual(joined(32, one, other), [0] + slow_form(one + other))
        self.assertEqual(len(joined(32, one, other)), 1025)

    def test_behind_a_long_common_beginning(self):
        alike = some_working(32, 300, 3)
        one = stirred(alike + some_working(12, 211, 4), 5)
        other = stirred(alike + moved(some_working(12, 200, 6), 20), 7)
        self.assertEqual(joined(32, one, other), told(one, other))
        self.assertEqual(len(joined(32, one, other)), 1 + 300 + 211 + 200)
        # Both lefts stay clear of the pairs 12 to 19 but for these last acts.
        self.assertEqual(joined(32, one + [15], other + [79]), [-6])
        self.assertEqual(joined(32, one + [15], other + [80]), told(one + [15], other + [80]))

    def test_long_lefts_that_touch(self):
        for n in (2, 5, 32):
            one, other = some_working(n, 512, n), some_working(n, 512, n + 1)
            self.assertEqual(joined(n, one, other), [-6])
            self.assertEqual(told(one, other), [-6])


class Bounds(unittest.TestCase):
    def test_pairs(self):
        for n in PAIRS_OUT_OF_BOUNDS:
            self.assertEqual(joined(n, [], []), [-1])
            self.assertEqual(joined(n, [0], [0]), [-1])
            self.assertEqual(joined(n, [0], [64]), [-1])
        self.assertEqual(joined(1, [0], [0, 0]), [0, 0, 0])
        self.assertEqual(joined(32, [94], [0]), [0, 0, 94])
        self.assertEqual(joined(32, [94], [31]), [-6])

    def test_empty_workings(self):
        for n in range(1, 33):
            self.assertEqual(joined(n, [], []), [0])
            self.assertEqual(joined(n, [], [0]), [0, 0])
            self.assertEqual(joined(n, [0], []), [0, 0])
        self.assertEqual(joined(3, [], [64, 0, 2]), [0, 2, 64, 0])

    def test_length(self):
        self.assertEqual(joined(1, [0] * 512, [0] * 512), [0] + [0] * 512)
        self.assertEqual(joined(1, [0] * 511, [0] * 512), [0] + [0] * 512)
        working = some_working(5, 512, 5)
        self.assertEqual(joined(5, [], working), form(5, working))
        self.assertEqual(joined(5, working, []), form(5, working))
        for length in (513, 600):
            self.assertEqual(joined(1, [0] * length, [0]), [-1])
            self.assertEqual(joined(1, [0], [0] * length), [-1])
            self.assertEqual(joined(1, [0] * length, [0] * length), [-1])


class Refusals(unittest.TestCase):
    def test_no_act_in_a_or_in_b(self):
        for n in range(1, 33):
            for number in (n, 63, 64 + n - 1, 95, 128, 255):
                self.assertEqual(joined(n, [number], [0]), [-5])
                self.assertEqual(joined(n, [], [0, number]), [-5])
                self.assertEqual(joined(n, [number], [number]), [-5])

    def test_bounds_go_ahead_of_no_act(self):
        self.assertEqual(joined(4, [255], [0] * 513), [-1])
        self.assertEqual(joined(4, [0] * 513, [255]), [-1])
        self.assertEqual(joined(4, [255], [255] * 600), [-1])
        for n in PAIRS_OUT_OF_BOUNDS:
            self.assertEqual(joined(n, [255], [255]), [-1])

    def test_no_act_goes_ahead_of_lefts_that_touch(self):
        self.assertEqual(joined(3, [64, 1], [0, 255]), [-5])
        self.assertEqual(joined(3, [64, 66], [0]), [-5])

    def test_bounds_go_ahead_of_lefts_that_touch(self):
        self.assertEqual(joined(3, [64], [0] * 513), [-1])
        self.assertEqual(joined(3, [64] * 513, [0]), [-1])


if __name__ == "__main__":
    unittest.main()
