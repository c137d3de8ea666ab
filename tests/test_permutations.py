"""Calls 1 to 6: then, back, rest, turned, facts, begins; and what every call does with a permutation not right."""

import itertools
import unittest

from helper import (MOST_WHOLE, SAME, TWIST, WRONG_COUNTS, WRONG_PERMUTATIONS, all_in, ask, ask_all, back, begins,
                    facts, join, meet, number, one_more_or_less, pairs, rest, right_for, some_permutations, then,
                    turned, word)

ROUND = list(range(1, 16)) + [0]
SWAP = [1, 0] + SAME[2:]
SOME = [SAME, TWIST, ROUND, SWAP] + some_permutations(20)

OF_ONE = {"back": back, "facts": facts, "word": word}
OF_TWO = {"then": then, "begins": begins, "meet": meet, "join": join}
OF_COUNT = {"rest": rest, "turned": turned, "number": number}


def half_twist(n):
    return list(range(n - 1, -1, -1)) + SAME[n:]


class NotRight(unittest.TestCase):
    def test_of_one(self):
        for (name, call), wrong in itertools.product(OF_ONE.items(), WRONG_PERMUTATIONS):
            with self.subTest(name, wrong=wrong):
                self.assertEqual(ask(call(WRONG_PERMUTATIONS[wrong])), [-1])

    def test_of_two(self):
        for (name, call), wrong in itertools.product(OF_TWO.items(), WRONG_PERMUTATIONS):
            with self.subTest(name, wrong=wrong):
                a = WRONG_PERMUTATIONS[wrong]
                self.assertEqual(ask(call(a, ROUND)), [-1])
                self.assertEqual(ask(call(ROUND, a)), [-1])
                self.assertEqual(ask(call(a, a)), [-1])

    def test_of_a_told_count(self):
        for (name, call), wrong in itertools.product(OF_COUNT.items(), WRONG_PERMUTATIONS):
            for n in (2, 3, 15, 16) + WRONG_COUNTS:
                with self.subTest(name, wrong=wrong, n=n):
                    self.assertEqual(ask(call(n, WRONG_PERMUTATIONS[wrong])), [-1])

    def test_wrong_counts(self):
        for (name, call), n in itertools.product(OF_COUNT.items(), WRONG_COUNTS):
            with self.subTest(name, n=n):
                self.assertEqual(ask(call(n, SAME)), [-1])
                self.assertEqual(ask(call(n, TWIST)), [-1])

    def test_right_for_sixteen_but_not_for_the_count(self):
        for (name, call), n in itertools.product(OF_COUNT.items(), range(2, 16)):
            just_outside = SAME[:n - 1] + [n, n - 1] + SAME[n + 1:]
            with self.subTest(name, n=n):
                self.assertEqual(ask(call(n, just_outside)), [-1])
                self.assertEqual(ask(call(n + 1, just_outside))[0], 0)
                self.assertEqual(ask(call(n, TWIST)), [-1])
                self.assertEqual(ask(call(n, half_twist(n)))[0], 0)

    def test_only_the_first_strands_count(self):
        swapped_behind = SAME[:14] + [15, 14]
        for name, call in OF_COUNT.items():
            with self.subTest(name):
                self.assertEqual(ask(call(14, swapped_behind)), [-1])
                self.assertEqual(ask(call(2, swapped_behind)), [-1])

    def test_a_short_one_right_for_the_count_is_not_right(self):
        for name, call in OF_COUNT.items():
            with self.subTest(name):
                self.assertEqual(ask(call(2, [1, 0])), [-1])
                self.assertEqual(ask(call(15, half_twist(15)[:15])), [-1])


class Then(unittest.TestCase):
    def test_first_a_then_b(self):
        self.assertEqual(ask(then(SWAP, ROUND)), [0, 2, 1] + list(range(3, 16)) + [0])
        self.assertEqual(ask(then(ROUND, SWAP)), [0, 0] + list(range(2, 16)) + [1])

    def test_by_the_words(self):
        for a, b in itertools.product(SOME, SOME):
            self.assertEqual(ask(then(a, b)), [0] + [b[a[i]] for i in range(16)])

    def test_the_same_twice(self):
        self.assertEqual(ask(then(TWIST, TWIST)), [0] + SAME)


class Back(unittest.TestCase):
    def test_ordinary(self):
        self.assertEqual(ask(back(ROUND)), [0, 15] + list(range(15)))
        self.assertEqual(ask(back(SAME)), [0] + SAME)

    def test_takes_back_from_both_sides(self):
        for a in SOME:
            taken = ask(back(a))[1:]
            self.assertEqual(ask(then(a, taken)), [0] + SAME)
            self.assertEqual(ask(then(taken, a)), [0] + SAME)


class Rest(unittest.TestCase):
    def test_ordinary(self):
        self.assertEqual(ask(rest(3, [1, 2, 0] + SAME[3:])), [0, 0, 2, 1] + SAME[3:])
        self.assertEqual(ask(rest(2, SAME)), [0] + SWAP)
        self.assertEqual(ask(rest(2, SWAP)), [0] + SAME)
        self.assertEqual(ask(rest(16, SAME)), [0] + TWIST)
        self.assertEqual(ask(rest(16, TWIST)), [0] + SAME)

    def test_a_then_it_is_the_half_twist(self):
        for n in range(2, 17):
            for a in [SAME, half_twist(n)] + some_permutations(10, n=n):
                missing = ask(rest(n, a))
                self.assertEqual(missing[0], 0)
                self.assertEqual([missing[1:][a[i]] for i in range(16)], half_twist(n))

    def test_the_count_matters(self):
        self.assertEqual(ask(rest(2, SWAP)), [0] + SAME)
        self.assertEqual(ask(rest(3, SWAP)), [0, 1, 2, 0] + SAME[3:])


class Turned(unittest.TestCase):
    def test_ordinary(self):
        self.assertEqual(ask(turned(3, SWAP)), [0, 0, 2, 1] + SAME[3:])
        self.assertEqual(ask(turned(2, SWAP)), [0] + SWAP)
        self.assertEqual(ask(turned(16, SWAP)), [0] + SAME[:14] + [15, 14])
        self.assertEqual(ask(turned(16, ROUND)), [0, 15] + list(range(15)))

    def test_by_the_words(self):
        for n in range(2, 17):
            for a in [SAME, half_twist(n)] + some_permutations(10, n=n):
                seen = [n - 1 - a[n - 1 - i] for i in range(n)] + SAME[n:]
                self.assertEqual(ask(turned(n, a)), [0] + seen)
                self.assertEqual(ask(turned(n, seen)), [0] + a)


class Facts(unittest.TestCase):
    def test_edges(self):
        self.assertEqual(ask(facts(SAME)), [0, 0, 0, 0])
        self.assertEqual(ask(facts(TWIST)), [0, 120, 32767, 32767])
        self.assertEqual(ask(facts(SWAP)), [0, 1, 1, 1])
        self.assertEqual(ask(facts(SAME[:14] + [15, 14])), [0, 1, 16384, 16384])

    def test_starting_and_ending_differ(self):
        self.assertEqual(ask(facts(ROUND)), [0, 15, 16384, 1])
        self.assertEqual(ask(facts([2, 0, 1] + SAME[3:])), [0, 2, 1, 2])

    def test_by_the_words(self):
        for a in SOME:
            crossing = [(i, j) for i, j in itertools.combinations(range(16), 2) if a[i] > a[j]]
            starting = sum(2 ** i for i in range(15) if (i, i + 1) in crossing)
            ending = 0
            for i in range(15):
                strands = tuple(sorted([a.index(i), a.index(i + 1)]))
                ending += 2 ** i if strands in crossing else 0
            self.assertEqual(ask(facts(a)), [0, len(crossing), starting, ending])


class Begins(unittest.TestCase):
    def test_edges(self):
        for a in SOME:
            self.assertEqual(ask(begins(a, a)), [1])
            self.assertEqual(ask(begins(SAME, a)), [1])
            self.assertEqual(ask(begins(a, TWIST)), [1])
            self.assertEqual(ask(begins(TWIST, a)), [1 if a == TWIST else 0])
            self.assertEqual(ask(begins(a, SAME)), [1 if a == SAME else 0])

    def test_pairs_of_starting_places_count(self):
        first_crosses_two = [2, 0, 1] + SAME[3:]
        self.assertEqual(ask(begins(SWAP, first_crosses_two)), [1])
        self.assertEqual(ask(begins([0, 2, 1] + SAME[3:], first_crosses_two)), [0])

    def test_all_of_four(self):
        four = right_for(4)
        asked = list(itertools.product(four, four))
        for (a, b), given in zip(asked, ask_all([begins(a, b) for a, b in asked])):
            self.assertEqual(given, [1 if all_in(pairs(a), pairs(b)) else 0])

    def test_one_crossing_more_or_less(self):
        for a in SOME:
            for more in one_more_or_less(a, True):
                self.assertEqual(ask(begins(a, more)), [1])
                self.assertEqual(ask(begins(more, a)), [0])
            for less in one_more_or_less(a, False):
                self.assertEqual(ask(begins(less, a)), [1])
                self.assertEqual(ask(begins(a, less)), [0])

    def test_the_last_pair_counts(self):
        last = SAME[:14] + [15, 14]
        self.assertEqual(ask(begins(last, SWAP)), [0])
        self.assertEqual(ask(begins(last, [1, 0] + last[2:])), [1])


class LargeNumbers(unittest.TestCase):
    def test_the_greatest_count_and_number(self):
        self.assertEqual(ask(rest(MOST_WHOLE, [MOST_WHOLE] * 16)), [-1])


if __name__ == "__main__":
    unittest.main()
