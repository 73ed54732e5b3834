"""What the document promises over the whole program, held over drawn workings of several n."""
import unittest

from bobbinlace.desk import common, ends, form, joined, left, right, same, thread, undone
from helpers import (
    acts_of, crossings_of, drawn_pairs, free_places, lawful_changes, slow_form, some_working, stirred, touch,
)

SEVERAL = (1, 2, 3, 5, 9, 32)


def drawn():
    """Pairs of workings, short and long ones."""
    yield from drawn_pairs((0, 1, 4, 9), 20, SEVERAL)
    yield from drawn_pairs((40, 120), 6, SEVERAL)


def neighbours_changed(working):
    """The working with two acts side by side changed, whether they touch or not, for each two."""
    for k in range(len(working) - 1):
        yield working[:k] + [working[k + 1], working[k]] + working[k + 2:]


def near_pairs():
    """Pairs of workings that are the same lace or fail to be it by little."""
    yield from drawn()
    for n in SEVERAL:
        for length in (2, 6, 25):
            working = some_working(n, length, 31 * n + length)
            yield n, working, stirred(working, length)
            yield n, working, working[:-1]
            yield n, working, working + working[:1]
            for other in neighbours_changed(working):
                yield n, working, other


def all_ways(n, working):
    return [thread(n, t, working) for t in range(2 * n)]


def undo_one(working, seed):
    """The working without an act of which nothing behind it touches it."""
    places = free_places(working[::-1])
    place = len(working) - 1 - places[sorted(places)[seed % len(places)]]
    return working[:place] + working[place + 1:]


def drawn_row(n, working, steps, seed):
    """A row of acts undone and worked in any order: where it leads, how many were undone, how many worked."""
    here, undos = list(working), 0
    for choice in some_working(32, steps, seed):
        if here and choice % 2:
            here, undos = undo_one(here, choice // 2), undos + 1
        else:
            here = here + [acts_of(n)[choice % len(acts_of(n))]]
    return here, undos, steps - undos


class OnTheLaceAlone(unittest.TestCase):
    def test_lawful_changes_leave_every_answer(self):
        for n, one, other in drawn():
            a, b = stirred(one, 5), stirred(other, 6)
            for call in (right, ends, form):
                self.assertEqual(call(n, a), call(n, one), (n, one))
            self.assertEqual(all_ways(n, a), all_ways(n, one), (n, one))
            for call in (same, common, left, joined, undone):
                self.assertEqual(call(n, a, b), call(n, one, other), (n, one, other))


class Ways(unittest.TestCase):
    def test_the_same_lace_just_if_the_ways_of_each_thread_are_the_same(self):
        met = set()
        for n, one, other in near_pairs():
            alike = 1 if all_ways(n, one) == all_ways(n, other) else 0
            self.assertEqual(same(n, one, other), [0, alike], (n, one, other))
            met.add(alike)
        self.assertEqual(met, {0, 1})

    def test_with_each_thread_followed_alone(self):
        for n, one, other in drawn_pairs((3, 8), 12, (1, 2, 3, 5)):
            alike = all(crossings_of(n, t, one) == crossings_of(n, t, other) for t in range(2 * n))
            self.assertEqual(same(n, one, other), [0, 1 if alike else 0], (n, one, other))


class Form(unittest.TestCase):
    def test_the_form_is_this_lace(self):
        for n, one, other in drawn():
            for working in (one, other):
                found = form(n, working)
                self.assertEqual(same(n, found[1:], working), [0, 1], (n, working))
                self.assertEqual(found, [0] + slow_form(working), (n, working))

    def test_the_same_form_just_if_it_is_the_same_lace(self):
        for n, one, other in near_pairs():
            alike = form(n, one) == form(n, other)
            self.assertEqual(same(n, one, other), [0, 1 if alike else 0], (n, one, other))

    def test_no_lawful_change_makes_it_less(self):
        for n, one, other in drawn():
            found = form(n, one)[1:]
            for changed in lawful_changes(found):
                self.assertGreater(changed, found)


class Beginnings(unittest.TestCase):
    def test_the_common_beginning_is_a_beginning_of_both(self):
        for n, one, other in drawn():
            begun = common(n, one, other)[1:]
            for working in (one, other):
                self.assertEqual(left(n, begun, working)[0], 0, (n, one, other))
            self.assertEqual(common(n, other, one), [0] + begun)
            self.assertEqual(form(n, begun), [0] + begun)

    def test_each_beginning_of_both_is_one_of_it(self):
        met = set()
        for n, one, other in drawn():
            begun = common(n, one, other)[1:]
            for length in range(len(one) + 1):
                a = stirred(one, length)[:length]
                found = left(n, a, other)[0]
                self.assertEqual(left(n, a, begun)[0], found, (n, a, other))
                met.add(found)
        self.assertEqual(met, {0, -6})

    def test_what_is_left_put_behind_gives_the_lace_back(self):
        for n, one, other in drawn():
            begun = common(n, one, other)[1:]
            for working in (one, other):
                behind = left(n, begun, working)[1:]
                self.assertEqual(same(n, begun + behind, working), [0, 1], (n, one, other))
                self.assertEqual(form(n, behind), [0] + behind)
            for length in range(0, len(one) + 1, 3):
                a = stirred(one, length)[:length]
                self.assertEqual(same(n, a + left(n, a, one)[1:], one), [0, 1], (n, a, one))

    def test_nothing_in_common_is_left(self):
        for n, one, other in drawn():
            begun = common(n, one, other)[1:]
            behind, other_behind = left(n, begun, one)[1:], left(n, begun, other)[1:]
            self.assertEqual(common(n, behind, other_behind), [0], (n, one, other))

    def test_a_beginning_just_if_it_is_the_common_one(self):
        for n, one, other in near_pairs():
            begins = left(n, one, other)[0] == 0
            self.assertEqual(same(n, one, common(n, one, other)[1:]), [0, 1 if begins else 0], (n, one, other))


class Joined(unittest.TestCase):
    def test_there_is_one_just_if_the_lefts_do_not_touch(self):
        met = set()
        for n, one, other in drawn():
            begun = common(n, one, other)[1:]
            behind, other_behind = left(n, begun, one)[1:], left(n, begun, other)[1:]
            found = joined(n, one, other)
            if any(touch(act, other_act) for act in behind for other_act in other_behind):
                self.assertEqual(found, [-6], (n, one, other))
            else:
                self.assertEqual(found, form(n, begun + behind + other_behind), (n, one, other))
            met.add(found[0])
        self.assertEqual(met, {0, -6})

    def test_it_begins_with_both(self):
        for n, one, other in drawn():
            found = joined(n, one, other)
            if found[0] == 0:
                for working in (one, other):
                    behind = left(n, working, found[1:])
                    self.assertEqual(behind[0], 0, (n, one, other))
                    self.assertEqual(same(n, working + behind[1:], found[1:]), [0, 1])

    def test_it_is_a_beginning_of_all_that_begin_with_both(self):
        for n in SEVERAL:
            for length in (1, 5, 20, 100):
                for seed in range(8):
                    whole = some_working(n, length, 100 * n + length + seed)
                    one = stirred(whole, seed)[:length * (seed % 4 + 1) // 5]
                    other = stirred(whole, seed + 50)[:length * (seed % 3 + 1) // 4]
                    found = joined(n, one, other)
                    self.assertEqual(found[0], 0, (n, one, other))
                    self.assertEqual(left(n, found[1:], whole)[0], 0, (n, one, other))

    def test_where_there_is_none_no_working_begins_with_both(self):
        for n, one, other in drawn_pairs((2, 5), 12, (2, 3, 5)):
            if joined(n, one, other) == [-6]:
                for seed in range(10):
                    whole = one + some_working(n, 12, seed)
                    self.assertEqual(left(n, other, whole), [-6], (n, other, whole))
                    self.assertEqual(left(n, other, one + other), [-6], (n, one, other))


class Undone(unittest.TestCase):
    def test_what_is_left_is_undone_and_worked(self):
        for n, one, other in drawn():
            begun = common(n, one, other)[1:]
            lefts = [len(left(n, begun, working)) - 1 for working in (one, other)]
            self.assertEqual(undone(n, one, other), [0] + lefts, (n, one, other))

    def test_no_row_has_fewer_undone_nor_fewer_worked(self):
        for n in SEVERAL:
            for steps in (1, 4, 15, 60):
                for seed in range(12):
                    one = some_working(n, 3 * seed, seed + n)
                    other, undos, works = drawn_row(n, one, steps, 10 * seed + n)
                    found = undone(n, one, other)
                    self.assertLessEqual(found[1], undos, (n, one, other))
                    self.assertLessEqual(found[2], works, (n, one, other))
                    self.assertEqual(found[2] - found[1], len(other) - len(one))

    def test_so_many_undone_and_worked_do_lead_there(self):
        for n, one, other in drawn():
            begun = common(n, one, other)[1:]
            here = begun + left(n, begun, one)[1:]
            self.assertEqual(same(n, here, one), [0, 1])
            undos, works = undone(n, one, other)[1:]
            stays = here[:len(here) - undos]
            behind = left(n, stays, other)
            self.assertEqual(behind[0], 0, (n, one, other))
            self.assertEqual(len(behind) - 1, works, (n, one, other))


if __name__ == "__main__":
    unittest.main()
