"""Calls 19, 22 and 23: order, the length of a row, and what is told."""

import itertools
import unittest

from helper import (SAME, all_braids, form, forms_of, inverse, line, made, moved_about, order, plain_follow, plain_row,
                    power, read_form, right_for, row_at, row_of_form, set_to, some_row, times, told, total, twist)

SIGNS = ((1,), (-1,), (-1, 1))
HALF = plain_row(twist(16))

# Place 0 has 40 half twists of sixteen, place 1 one.
FORTY_HALF_TWISTS = made(1, 16, HALF) + [power(0, 1, 8), power(0, 0, 5)]


def order_of(n, a, m, b):
    given = line(set_to(0, n, a), set_to(1, m, b), order(0, 1), order(1, 0))
    if given[2][0] != 0 or given[3] != [0, -given[2][1]]:
        raise AssertionError(f"order of {a} and {b}: {given}")
    return given[2][1]


def plain_rank(answer):
    """By n; by half twists; by the number of factors; by the numbers of the factors."""
    found = read_form(answer)
    right = right_for(found.n)
    return found.n, found.twists, len(found.factors), [right.index(factor) for factor in found.factors]


class Order(unittest.TestCase):
    def test_by_strands_first(self):
        self.assertEqual(order_of(2, [1] * 50, 3, [-1] * 50), -1)
        self.assertEqual(order_of(3, [], 2, [1]), 1)
        self.assertEqual(order_of(15, [1, 2, 3], 16, []), -1)
        self.assertEqual(order_of(3, [1], 4, [1]), -1)

    def test_then_by_half_twists(self):
        self.assertEqual(order_of(3, [1, 2, 1], 3, [1] * 5), 1)
        self.assertEqual(order_of(3, [-1], 3, []), -1)
        self.assertEqual(order_of(3, [-1, -2, -1, 2, 2, 2], 3, []), -1)
        self.assertEqual(order_of(2, [-1] * 3, 2, [-1] * 2), -1)
        self.assertEqual(order_of(2, [-1] * 10, 2, [1]), -1)
        self.assertEqual(order_of(2, [1] * 10, 2, [1] * 9), 1)

    def test_then_by_the_number_of_factors(self):
        self.assertEqual(order_of(3, [2, 1], 3, [1, 1]), -1)
        self.assertEqual(order_of(3, [1, 1, 1], 3, [2, 2]), 1)
        self.assertEqual(order_of(3, [], 3, [1]), -1)
        self.assertEqual(order_of(3, [2, 1], 3, [2, 2]), -1)

    def test_then_by_the_first_factor_that_differs(self):
        self.assertEqual(order_of(3, [2], 3, [1]), -1)
        self.assertEqual(order_of(3, [2, 1], 3, [1, 2]), -1)
        self.assertEqual(order_of(3, [1, 1, 2], 3, [1, 1]), 1)
        self.assertEqual(order_of(4, [1, 2, 2], 4, [2, 1, 1]), 1)
        self.assertEqual(order_of(3, [1, 2, 2, 1], 3, [1, 2, 2]), 1)
        self.assertEqual(order_of(16, [15], 16, [14]), -1)

    def test_a_factor_s_number_and_not_its_crossings(self):
        self.assertEqual(order_of(4, [2, 3, 2], 4, [1]), -1)
        self.assertEqual(order_of(4, [1], 4, [2, 1]), -1)

    def test_a_braid_with_itself(self):
        for n in (2, 3, 4, 16):
            for seed in range(8):
                row = some_row(12, seed, n)
                self.assertEqual(order_of(n, row, n, moved_about(n, row, 20, seed, 40)), 0)
                self.assertEqual(line(set_to(5, n, row), order(5, 5))[1], [0, 0])

    def test_by_the_words(self):
        braids = [(n, row) for n, longest in ((2, 3), (3, 3), (4, 2)) for row in all_braids(n, longest)]
        ranks = [plain_rank(forms_of(n, [row])[0]) for n, row in braids]
        seen = set()
        for one, other in itertools.product(range(0, len(braids), 2), range(0, len(braids), 3)):
            wanted = (ranks[one] > ranks[other]) - (ranks[one] < ranks[other])
            seen.add(wanted)
            self.assertEqual(order_of(*braids[one], *braids[other]), wanted)
        self.assertEqual(seen, {-1, 0, 1})

    def test_longer_ones_of_four_and_five(self):
        for n, signs in itertools.product((4, 5), SIGNS):
            rows = [some_row(12, f"{n} {seed}", n, signs) for seed in range(14)]
            ranks = [plain_rank(found) for found in forms_of(n, rows)]
            for one, other in itertools.combinations(range(14), 2):
                wanted = (ranks[one] > ranks[other]) - (ranks[one] < ranks[other])
                self.assertEqual(order_of(n, rows[one], n, rows[other]), wanted)


class LengthOfARow(unittest.TestCase):
    def length_at_forty_one(self, factors, below=False):
        """What row answers of 41 half twists (4920 crossings) and then so many crossings more."""
        calls = FORTY_HALF_TWISTS + [times(0, 0, 1)] + ([inverse(0, 0)] if below else [])
        calls = calls + [set_to(2, 16, factors), times(0, 0, 2)]
        return line(*calls, form(0), row_at(0))[-2:]

    def test_just_five_thousand(self):
        for below in (False, True):
            for factors in ([], [1] * 40, [1, 3] * 40, [1, 3] * 39 + [1]):
                found, row = self.length_at_forty_one(factors, below)
                self.assertEqual(found[2], -41 if below else 41)
                self.assertEqual(len(row), 1 + 4920 + len(factors))
                self.assertEqual(row, [0] + row_of_form(read_form(found)))

    def test_more_than_five_thousand(self):
        for below in (False, True):
            for factors in ([1, 3] * 40 + [1], [1, 3, 5, 7, 9] * 20):
                found, row = self.length_at_forty_one(factors, below)
                self.assertEqual((found[2], row), (-41 if below else 41, [-3]))

    def test_half_twists_below_nought_and_factors_are_both_counted(self):
        # 41 half twists taken back and 119 crossings more: 5039 in the row,
        # though the crossings above 0 less those below are 4801 below 0.
        given = line(*FORTY_HALF_TWISTS, inverse(0, 0), set_to(2, 16, [-1]), times(0, 0, 2), form(0), row_at(0),
                     told(0))
        self.assertEqual(given[-3][2], -41)
        self.assertEqual(given[-2:], [[-3], [0, -4801, 15, 1, 0] + SAME[2:]])

    def test_very_many(self):
        given = line(*FORTY_HALF_TWISTS, times(0, 0, 0), form(0), row_at(0), inverse(0, 0), form(0), row_at(0))
        self.assertEqual(given[-5:], [[0, 16, 80], [-3], [0], [0, 16, -80], [-3]])

    def test_it_may_be_asked_again(self):
        given = line(*FORTY_HALF_TWISTS, times(0, 0, 0), row_at(0), form(0), power(0, 0, 0), row_at(0))
        self.assertEqual(given[-4:], [[-3], [0, 16, 80], [0], [0]])


class Told(unittest.TestCase):
    def test_written(self):
        given = line(set_to(0, 3, [1, 2]), told(0), set_to(0, 3, [-1, -2]), told(0), set_to(0, 4, [1, -3]), told(0),
                     set_to(0, 2, []), told(0), set_to(0, 2, [-1]), told(0))
        self.assertEqual(given[1::2], [[0, 2, 1, 2, 0, 1], [0, -2, 1, 2, 0, 1], [0, 0, 2, 1, 0, 3, 2], [0, 0, 2, 0, 1],
                                       [0, -1, 1, 1, 0]])

    def test_none(self):
        for n in range(2, 17):
            self.assertEqual(line(set_to(0, n, []), told(0))[1], [0, 0, n] + SAME[:n])

    def test_by_the_words(self):
        for n, signs, length in itertools.product((2, 3, 4, 5, 9, 16), SIGNS, (1, 2, 5, 20, 60)):
            row = some_row(length, f"{n} {length}", n, signs)
            ends = plain_follow(row)[:n]
            self.assertEqual(line(set_to(0, n, row), told(0))[1], [0, total(row), plain_loops(ends)] + ends)

    def test_a_loop_of_all(self):
        for n in range(2, 17):
            row = list(range(1, n))
            self.assertEqual(line(set_to(0, n, row), told(0))[1], [0, n - 1, 1, n - 1] + SAME[:n - 1])

    def test_half_twists(self):
        for n in range(2, 15):
            half = plain_row(twist(n))
            given = line(set_to(0, n, half), told(0), times(0, 0, 0), told(0))
            self.assertEqual(given[1], [0, len(half), (n + 1) // 2] + twist(n)[:n])
            self.assertEqual(given[3], [0, 2 * len(half), n] + SAME[:n])

    def test_very_many_crossings(self):
        factors = some_row(50, "very many", 16, (1,))
        calls = FORTY_HALF_TWISTS + [times(2, 0, 1), times(0, 0, 2), set_to(2, 16, factors), times(3, 0, 2)]
        given = line(*calls, told(0), told(3), inverse(4, 0), told(4), form(3))[-5:]
        self.assertEqual(given[0], [0, 81 * 120, 8] + twist(16))
        ends = plain_follow(HALF + factors)
        self.assertEqual(given[1], [0, 81 * 120 + 50, plain_loops(ends)] + ends)
        self.assertEqual(given[3], [0, -81 * 120, 8] + twist(16))


def plain_loops(ends):
    loops = set()
    for start in range(len(ends)):
        walked = [start]
        while ends[walked[-1]] not in walked:
            walked.append(ends[walked[-1]])
        loops.add(frozenset(walked))
    return len(loops)


if __name__ == "__main__":
    unittest.main()
