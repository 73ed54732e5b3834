import collections
import unittest

from bobbinlace.desk import same, undone
from helpers import (
    PAIRS_OUT_OF_BOUNDS, SHORT, acts_of, drawn_pairs, each_working, lace_of, short_pairs, some_working, split_off,
    stirred,
)


def told(one, other):
    """What isn't of the common beginning is undone and worked."""
    rest, other_rest = split_off(one, other)[1:]
    return [0, len(rest), len(other_rest)]


def steps_between(n, most):
    """For each lace of at most so many acts, named by its form: (the lace a step leads to, undone, worked)."""
    laces = {}
    for working in each_working(n, most):
        lace = lace_of(working)
        laces.setdefault(min(lace), lace)
    steps = {}
    for name, lace in laces.items():
        back = {min(lace_of(list(working[:-1]))) for working in lace if working}
        on = {min(lace_of(list(name) + [act])) for act in acts_of(n) if len(name) < most}
        steps[name] = [(reached, 1, 0) for reached in back] + [(reached, 0, 1) for reached in on]
    return steps


def fewest(steps, start, counted):
    """The least number of steps undone (counted 1) or worked (counted 2) in a row that leads to each lace."""
    least = {start: 0}
    waiting = collections.deque([start])
    while waiting:
        here = waiting.popleft()
        for step in steps[here]:
            cost = least[here] + step[counted]
            if cost < least.get(step[0], cost + 1):
                least[step[0]] = cost
                # Those that cost nothing first, so that the least come first.
                if step[counted]:
                    waiting.append(step[0])
                else:
                    waiting.appendleft(step[0])
    return least


class OrdinaryWorkings(unittest.TestCase):
    def test_the_same_lace_twice(self):
        self.assertEqual(undone(1, [0], [0]), [0, 0, 0])
        self.assertEqual(undone(2, [64, 1, 0, 64], [64, 0, 1, 64]), [0, 0, 0])
        self.assertEqual(undone(3, [64, 0, 2], [2, 64, 0]), [0, 0, 0])

    def test_nothing_in_common(self):
        self.assertEqual(undone(2, [0], [64]), [0, 1, 1])
        self.assertEqual(undone(2, [64, 0], [0, 64]), [0, 2, 2])
        self.assertEqual(undone(2, [0, 0, 64], [1]), [0, 3, 1])
        self.assertEqual(undone(3, [65, 1, 2], [2, 1, 65, 64]), [0, 3, 4])

    def test_a_beginning_of_the_other(self):
        self.assertEqual(undone(2, [64, 1], [64, 0, 1, 64]), [0, 0, 2])
        self.assertEqual(undone(2, [64, 0, 1, 64], [64, 1]), [0, 2, 0])
        self.assertEqual(undone(3, [2], [64, 0, 2]), [0, 0, 2])
        self.assertEqual(undone(3, [64, 0, 2], [2]), [0, 2, 0])
        self.assertEqual(undone(1, [0] * 3, [0] * 5), [0, 0, 2])

    def test_two_that_part(self):
        self.assertEqual(undone(2, [64, 0, 64], [64, 1, 64, 0]), [0, 2, 3])
        self.assertEqual(undone(3, [1, 2, 65, 0], [0, 1, 64]), [0, 2, 1])
        self.assertEqual(undone(4, [66, 0, 3, 64], [64, 66, 3, 3]), [0, 2, 2])
        self.assertEqual(undone(3, [65, 0, 1], [0, 2, 65]), [0, 2, 2])

    def test_an_act_can_stay_behind_one_that_is_undone_only_if_they_do_not_touch(self):
        self.assertEqual(undone(2, [0, 1], [1]), [0, 1, 0])
        self.assertEqual(undone(2, [64, 1], [1]), [0, 2, 1])
        self.assertEqual(undone(3, [0, 64, 2], [1, 2]), [0, 2, 1])

    def test_the_same_act_twice_is_not_nothing(self):
        self.assertEqual(undone(1, [0, 0], []), [0, 2, 0])
        self.assertEqual(undone(2, [64, 64, 0], [0]), [0, 3, 1])

    def test_the_other_way_round(self):
        for n, one, other in drawn_pairs((3, 7), 12):
            there, back = undone(n, one, other), undone(n, other, one)
            self.assertEqual(back, [0, there[2], there[1]], (n, one, other))

    def test_against_all_rows_of_acts_undone_and_worked(self):
        for n, most in SHORT:
            # A row may go by laces that are longer than both.
            steps = steps_between(n, most + 1)
            for one in each_working(n, most):
                start = min(lace_of(one))
                undo, work = fewest(steps, start, 1), fewest(steps, start, 2)
                for other in each_working(n, most):
                    goal = min(lace_of(other))
                    self.assertEqual(undone(n, one, other), [0, undo[goal], work[goal]], (n, one, other))

    def test_against_all_rows_for_longer_workings(self):
        steps = steps_between(2, 6)
        for seed in range(25):
            one, other = some_working(2, 5, seed), some_working(2, 4 + seed % 2, 7 * seed + 1)
            undo, work = (fewest(steps, min(lace_of(one)), counted) for counted in (1, 2))
            goal = min(lace_of(other))
            self.assertEqual(undone(2, one, other), [0, undo[goal], work[goal]], (one, other))

    def test_what_is_not_of_the_common_beginning(self):
        for n, one, other in short_pairs():
            self.assertEqual(undone(n, one, other), told(one, other), (n, one, other))
        for n, one, other in drawn_pairs((4, 9, 30), 15):
            self.assertEqual(undone(n, one, other), told(one, other), (n, one, other))

    def test_nothing_to_do_just_if_it_is_the_same_lace(self):
        for n, one, other in short_pairs():
            alike = undone(n, one, other) == [0, 0, 0]
            self.assertEqual(same(n, one, other), [0, 1 if alike else 0], (n, one, other))


class LongWorkings(unittest.TestCase):
    def test_against_a_slow_search(self):
        for n in (1, 2, 3, 9, 32):
            alike = some_working(n, 200, n)
            one = stirred(alike + some_working(n, 312, n + 1), 1)
            other = stirred(alike + some_working(n, 150, n + 2), 2)
            self.assertEqual(undone(n, one, other), told(one, other))
            self.assertLessEqual(undone(n, one, other)[1], 312)

    def test_the_same_lace_twice(self):
        for n in (1, 2, 9, 32):
            working = some_working(n, 512, n)
            self.assertEqual(undone(n, working, stirred(working, 3)), [0, 0, 0])


class Bounds(unittest.TestCase):
    def test_pairs(self):
        for n in PAIRS_OUT_OF_BOUNDS:
            self.assertEqual(undone(n, [], []), [-1])
            self.assertEqual(undone(n, [0], [0]), [-1])
            self.assertEqual(undone(n, [0], [64]), [-1])
        self.assertEqual(undone(1, [0], [0, 0]), [0, 0, 1])
        self.assertEqual(undone(32, [94, 0, 31], [0, 94]), [0, 1, 0])
        self.assertEqual(undone(32, [94, 31], [31, 94, 0]), [0, 2, 3])

    def test_empty_workings(self):
        for n in range(1, 33):
            self.assertEqual(undone(n, [], []), [0, 0, 0])
            self.assertEqual(undone(n, [], [0]), [0, 0, 1])
            self.assertEqual(undone(n, [0], []), [0, 1, 0])

    def test_length(self):
        self.assertEqual(undone(1, [0] * 512, [0] * 512), [0, 0, 0])
        self.assertEqual(undone(1, [0] * 512, []), [0, 512, 0])
        self.assertEqual(undone(1, [], [0] * 512), [0, 0, 512])
        self.assertEqual(undone(2, [0] * 512, [64] * 512), [0, 512, 512])
        self.assertEqual(undone(32, [94] * 256 + [0] * 256, [0] * 512), [0, 256, 256])
        for length in (513, 600):
            self.assertEqual(undone(1, [0] * length, [0]), [-1])
            self.assertEqual(undone(1, [0], [0] * length), [-1])
            self.assertEqual(undone(1, [0] * length, [0] * length), [-1])


class Refusals(unittest.TestCase):
    def test_no_act_in_a_or_in_b(self):
        for n in range(1, 33):
            for number in (n, 63, 64 + n - 1, 95, 128, 255):
                self.assertEqual(undone(n, [number], [0]), [-5])
                self.assertEqual(undone(n, [], [0, number]), [-5])
                self.assertEqual(undone(n, [number], [number]), [-5])
        self.assertEqual(undone(3, [0] * 511 + [3], [0] * 511 + [66]), [-5])

    def test_bounds_go_ahead_of_no_act(self):
        self.assertEqual(undone(4, [255], [0] * 513), [-1])
        self.assertEqual(undone(4, [0] * 513, [255]), [-1])
        self.assertEqual(undone(4, [255], [255] * 600), [-1])
        for n in PAIRS_OUT_OF_BOUNDS:
            self.assertEqual(undone(n, [255], [255]), [-1])


if __name__ == "__main__":
    unittest.main()
