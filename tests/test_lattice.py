"""Calls 7 and 8: meet and join, held against the words that define them."""

import itertools
import unittest

from helper import SAME, TWIST, all_in, ask, ask_all, join, meet, one_more_or_less, pairs, right_for, some_permutations


def some_pairs():
    """Pairs of sixteen places: any two, close ones, and some with few crossings or nearly all."""
    found = list(zip(some_permutations(40, seed=5), some_permutations(40, seed=6)))
    for a, b in list(found[:20]):
        found.append((a, one_more_or_less(a, True)[0]))
        found.append((walked(a, 40, False), walked(b, 40, False)))
        found.append((walked(a, 40, True), walked(b, 40, True)))
        found.append((walked(a, 15, True), walked(a, 15, True, last=True)))
        found.append((walked(a, 15, False), walked(a, 15, False, last=True)))
    return found


def walked(a, steps, more, last=False):
    for _ in range(steps):
        onward = one_more_or_less(a, more)
        if onward:
            a = onward[-1 if last else len(onward) // 2]
    return a


class Written(unittest.TestCase):
    def test_meet(self):
        self.assertEqual(ask(meet([2, 0, 1] + SAME[3:], [1, 2, 0] + SAME[3:])), [0] + SAME)
        self.assertEqual(ask(meet([2, 0, 1] + SAME[3:], [2, 1, 0] + SAME[3:])), [0, 2, 0, 1] + SAME[3:])
        self.assertEqual(ask(meet([2, 0, 1] + SAME[3:], [1, 0] + SAME[2:])), [0, 1, 0] + SAME[2:])

    def test_a_pair_that_crosses_in_both_need_not_cross_in_the_meet(self):
        # The first and the last of three cross in both, but not alike.
        a, b = [2, 0, 1] + SAME[3:], [1, 2, 0] + SAME[3:]
        self.assertNotEqual(pairs(a) & pairs(b), 0)
        self.assertEqual(ask(meet(a, b)), [0] + SAME)

    def test_join(self):
        self.assertEqual(ask(join([1, 0] + SAME[2:], [0, 2, 1] + SAME[3:])), [0, 2, 1, 0] + SAME[3:])
        self.assertEqual(ask(join([1, 0] + SAME[2:], SAME[:2] + [3, 2] + SAME[4:])), [0, 1, 0, 3, 2] + SAME[4:])
        self.assertEqual(ask(join([2, 0, 1] + SAME[3:], [1, 0] + SAME[2:])), [0, 2, 0, 1] + SAME[3:])

    def test_all_neighbours_joined_are_the_twist(self):
        odd = [1, 0, 3, 2, 5, 4, 7, 6, 9, 8, 11, 10, 13, 12, 15, 14]
        even = [0, 2, 1, 4, 3, 6, 5, 8, 7, 10, 9, 12, 11, 14, 13, 15]
        self.assertEqual(ask(join(odd, even)), [0] + TWIST)
        self.assertEqual(ask(meet(odd, even)), [0] + SAME)

    def test_edges(self):
        for a in [SAME, TWIST] + some_permutations(10, seed=7):
            self.assertEqual(ask(meet(a, a)), [0] + a)
            self.assertEqual(ask(join(a, a)), [0] + a)
            for first, second in ((meet(a, SAME), meet(SAME, a)), (join(a, TWIST), join(TWIST, a))):
                self.assertEqual(ask(first), ask(second))
            self.assertEqual(ask(meet(a, SAME)), [0] + SAME)
            self.assertEqual(ask(meet(a, TWIST)), [0] + a)
            self.assertEqual(ask(join(a, SAME)), [0] + a)
            self.assertEqual(ask(join(a, TWIST)), [0] + TWIST)


class AllOfAFew(unittest.TestCase):
    def check_all_of(self, n):
        right = right_for(n)
        masks = [pairs(a) for a in right]
        asked = list(itertools.product(range(len(right)), repeat=2))
        meets = ask_all([meet(right[i], right[j]) for i, j in asked])
        joins = ask_all([join(right[i], right[j]) for i, j in asked])
        for (i, j), met, joined in zip(asked, meets, joins):
            self.assertEqual((met[0], joined[0]), (0, 0))
            self.assertIn(met[1:], right)
            self.assertIn(joined[1:], right)
            self.check_by_the_words(masks, masks[i], masks[j], pairs(met[1:]), pairs(joined[1:]))

    def check_by_the_words(self, masks, a, b, met, joined):
        self.assertTrue(all_in(met, a) and all_in(met, b))
        self.assertTrue(all_in(a, joined) and all_in(b, joined))
        for other in masks:
            if all_in(other, a) and all_in(other, b):
                self.assertTrue(all_in(other, met))
            if all_in(a, other) and all_in(b, other):
                self.assertTrue(all_in(joined, other))

    def test_two(self):
        self.check_all_of(2)

    def test_three(self):
        self.check_all_of(3)

    def test_four(self):
        self.check_all_of(4)

    def test_five(self):
        self.check_all_of(5)


class Sixteen(unittest.TestCase):
    """There is just one greatest and one least, so it's enough that no step beyond the answer still holds."""

    def test_meet(self):
        for a, b in some_pairs():
            met = ask(meet(a, b))
            self.assertEqual((met[0], sorted(met[1:])), (0, SAME))
            self.assertTrue(self.begins_both(met[1:], a, b))
            for more in one_more_or_less(met[1:], True):
                self.assertFalse(self.begins_both(more, a, b))

    def test_join(self):
        for a, b in some_pairs():
            joined = ask(join(a, b))
            self.assertEqual((joined[0], sorted(joined[1:])), (0, SAME))
            self.assertTrue(self.begun_by_both(joined[1:], a, b))
            for less in one_more_or_less(joined[1:], False):
                self.assertFalse(self.begun_by_both(less, a, b))

    def test_everything_that_begins_both_begins_the_meet(self):
        for a, b in some_pairs()[:60]:
            met = pairs(ask(meet(a, b))[1:])
            joined = pairs(ask(join(a, b))[1:])
            for last in (False, True):
                self.climb(a, b, met, last)
                self.descend(a, b, joined, last)

    def climb(self, a, b, met, last):
        now = SAME
        while now is not None:
            self.assertTrue(all_in(pairs(now), met))
            onward = [more for more in one_more_or_less(now, True) if self.begins_both(more, a, b)]
            now = onward[-1 if last else 0] if onward else None

    def descend(self, a, b, joined, last):
        now = TWIST
        while now is not None:
            self.assertTrue(all_in(joined, pairs(now)))
            onward = [less for less in one_more_or_less(now, False) if self.begun_by_both(less, a, b)]
            now = onward[-1 if last else 0] if onward else None

    def test_both_orders_are_the_same(self):
        for a, b in some_pairs():
            self.assertEqual(ask(meet(a, b)), ask(meet(b, a)))
            self.assertEqual(ask(join(a, b)), ask(join(b, a)))

    def begins_both(self, some, a, b):
        return all_in(pairs(some), pairs(a)) and all_in(pairs(some), pairs(b))

    def begun_by_both(self, some, a, b):
        return all_in(pairs(a), pairs(some)) and all_in(pairs(b), pairs(some))


if __name__ == "__main__":
    unittest.main()
