"""Calls 11 and 12: word and follow."""

import unittest

from helper import (SAME, TWIST, ask, ask_all, facts, follow, plain_follow, plain_row, right_for, some_permutations,
                    some_row, then, word)

NO_CROSSINGS = [0, 16, -16, 2147483647, -2147483648]


def twist_row(n):
    return [crossing for top in range(1, n) for crossing in range(top, 0, -1)]


class Word(unittest.TestCase):
    def test_ordinary(self):
        self.assertEqual(ask(word(SAME)), [0])
        self.assertEqual(ask(word([1, 0] + SAME[2:])), [0, 1])
        self.assertEqual(ask(word(SAME[:14] + [15, 14])), [0, 15])
        self.assertEqual(ask(word([2, 0, 1] + SAME[3:])), [0, 1, 2])
        self.assertEqual(ask(word([1, 2, 0] + SAME[3:])), [0, 2, 1])
        self.assertEqual(ask(word([2, 1, 0] + SAME[3:])), [0, 1, 2, 1])

    def test_the_least_place_first(self):
        self.assertEqual(ask(word([1, 0, 3, 2] + SAME[4:])), [0, 1, 3])

    def test_half_twists(self):
        for n in range(2, 17):
            self.assertEqual(ask(word(list(range(n - 1, -1, -1)) + SAME[n:])), [0] + twist_row(n))

    def test_the_half_twist_of_sixteen(self):
        row = ask(word(TWIST))[1:]
        self.assertEqual(len(row), 120)
        self.assertEqual(row[:6], [1, 2, 1, 3, 2, 1])
        self.assertEqual(row[-15:], list(range(15, 0, -1)))
        self.assertEqual(ask(follow(row)), [-3])
        upper, lower = ask(follow(row[:100]))[1:], ask(follow(row[100:]))[1:]
        self.assertEqual(ask(then(upper, lower)), [0] + TWIST)

    def test_by_the_words(self):
        found = right_for(5) + some_permutations(40, seed=9)
        for a, given in zip(found, ask_all([word(a) for a in found])):
            self.assertEqual(given, [0] + plain_row(a))

    def test_as_many_as_pairs_cross(self):
        for a in some_permutations(20, seed=10):
            self.assertEqual(len(ask(word(a))) - 1, ask(facts(a))[1])

    def test_followed_is_the_permutation(self):
        found = right_for(5) + some_permutations(100, n=12, seed=11) + some_permutations(100, seed=12)
        followed = 0
        for a in found:
            row = ask(word(a))[1:]
            if len(row) <= 100:
                followed += 1
                self.assertEqual(ask(follow(row)), [0] + a)
        self.assertGreater(followed, 250)


class Follow(unittest.TestCase):
    def test_ordinary(self):
        self.assertEqual(ask(follow([1])), [0, 1, 0] + SAME[2:])
        self.assertEqual(ask(follow([15])), [0] + SAME[:14] + [15, 14])
        self.assertEqual(ask(follow([1, 2])), [0, 2, 0, 1] + SAME[3:])
        self.assertEqual(ask(follow([2, 1])), [0, 1, 2, 0] + SAME[3:])
        self.assertEqual(ask(follow(list(range(1, 16)))), [0, 15] + list(range(15)))

    def test_over_and_under_come_to_the_same_places(self):
        self.assertEqual(ask(follow([-1])), [0, 1, 0] + SAME[2:])
        self.assertEqual(ask(follow([-15])), [0] + SAME[:14] + [15, 14])
        self.assertEqual(ask(follow([1, -1])), [0] + SAME)
        self.assertEqual(ask(follow([1, 1])), [0] + SAME)
        self.assertEqual(ask(follow([1, -2])), ask(follow([-1, 2])))

    def test_none(self):
        self.assertEqual(ask(follow([])), [0] + SAME)

    def test_numbers_that_are_no_crossing(self):
        for crossing in NO_CROSSINGS:
            self.assertEqual(ask(follow([crossing])), [0] + SAME)
            self.assertEqual(ask(follow([1, crossing, 2])), ask(follow([1, 2])))
        self.assertEqual(ask(follow(NO_CROSSINGS + [3] + NO_CROSSINGS)), ask(follow([3])))

    def test_by_the_words(self):
        for seed in range(40):
            row = some_row(100, seed)
            self.assertEqual(ask(follow(row)), [0] + plain_follow(row))

    def test_at_most_a_hundred(self):
        self.assertEqual(ask(follow([1] * 99)), [0, 1, 0] + SAME[2:])
        self.assertEqual(ask(follow([1] * 100)), [0] + SAME)
        self.assertEqual(ask(follow([1] * 101)), [-3])
        self.assertEqual(ask(follow([1] * 2000)), [-3])

    def test_numbers_that_are_no_crossing_count_too(self):
        self.assertEqual(ask(follow([0] * 100)), [0] + SAME)
        for crossing in NO_CROSSINGS:
            self.assertEqual(ask(follow([crossing] * 101)), [-3])
        self.assertEqual(ask(follow([1] + [16] * 99)), [0, 1, 0] + SAME[2:])
        self.assertEqual(ask(follow([1] + [16] * 100)), [-3])


if __name__ == "__main__":
    unittest.main()
