"""Calls 17 and 20: greatest and starts, held against the words by going through many small braids (P3)."""

import itertools
import unittest

from helper import (all_braids, backward, check_form, check_means, form, forms_of, greatest, inverse, line, made,
                    moved_about, plain_row, plainly_begins, power, read_form, row_of_form, set_to, some_row, starts,
                    times, twist)


def starts_of(n, a, b):
    return line(set_to(0, n, a), set_to(1, n, b), starts(0, 1))[2]


def greatest_of(n, a, b):
    """The greatest common beginning's form, and what the two places have behind that."""
    given = line(set_to(0, n, a), set_to(1, n, b), greatest(2, 0, 1), form(2), form(0), form(1))
    if given[2] != [0] or given[4:] != forms_of(n, [a, b]):
        raise AssertionError(f"greatest of {a} and {b}: {given}")
    return given[3]


def with_half_twists(n, twists, row):
    half = plain_row(twist(n))
    return half * twists + row if twists >= 0 else backward(half) * -twists + row


class Starts(unittest.TestCase):
    def test_written(self):
        for n in (3, 4, 16):
            self.assertEqual(starts_of(n, [], [1]), [1])
            self.assertEqual(starts_of(n, [1], []), [0])
            self.assertEqual(starts_of(n, [-1], []), [1])
            self.assertEqual(starts_of(n, [], [-1]), [0])
            self.assertEqual(starts_of(n, [1], [1, 2]), [1])
            self.assertEqual(starts_of(n, [2], [1, 2]), [0])
            self.assertEqual(starts_of(n, [2], [1, 2, 1]), [1])
            self.assertEqual(starts_of(n, [-1], [1]), [1])
            self.assertEqual(starts_of(n, [-2], [1, -2]), [0])
        self.assertEqual(starts_of(2, [1, 1], [1, 1, 1]), [1])
        self.assertEqual(starts_of(2, [1, 1, 1], [1, 1]), [0])

    def test_a_braid_begins_itself(self):
        for n in (2, 3, 4, 16):
            for seed in range(10):
                row = some_row(15, seed, n)
                self.assertEqual(starts_of(n, row, moved_about(n, row, 10, seed, 40)), [1])
                self.assertEqual(line(set_to(3, n, row), starts(3, 3))[1], [1])

    def test_what_comes_behind_counts(self):
        for n in (2, 3, 4, 16):
            for seed in range(10):
                row, more = some_row(15, seed, n), some_row(1 + seed, seed, n, (1,))
                self.assertEqual(starts_of(n, row, row + more), [1])
                self.assertEqual(starts_of(n, row + more, row), [0])
                self.assertEqual(starts_of(n, row + backward(more), row), [1])

    def test_all_of_three(self):
        rows = all_braids(3, 3)
        for a, b in itertools.product(rows, rows):
            self.assertEqual(starts_of(3, a, b), [1 if plainly_begins(3, a, b) else 0], (a, b))

    def test_all_of_four(self):
        rows = all_braids(4, 2)
        for a, b in itertools.product(rows, rows):
            self.assertEqual(starts_of(4, a, b), [1 if plainly_begins(4, a, b) else 0], (a, b))

    def test_longer_ones_of_three(self):
        begun = 0
        for seed in range(150):
            a, b = some_row(3, f"a{seed}", 3, (-1, 1)), some_row(9, f"b{seed}", 3, (-1, 1, 1, 1))
            begins = plainly_begins(3, a, b)
            begun += begins
            self.assertEqual(starts_of(3, a, b), [1 if begins else 0], (a, b))
        self.assertTrue(20 < begun < 130)


class Greatest(unittest.TestCase):
    def test_written(self):
        self.assertEqual(greatest_of(3, [1, 2], [1, 1]), [0, 3, 0, 1, 0, 2])
        self.assertEqual(greatest_of(3, [1], [2]), [0, 3, 0])
        self.assertEqual(greatest_of(3, [1, 2, 1], [2, 1]), [0, 3, 0, 1, 2, 0])
        self.assertEqual(greatest_of(3, [1, 1, 2], [1, 1, 1]), [0, 3, 0, 1, 0, 2, 1, 0, 2])
        self.assertEqual(greatest_of(4, [1, 3], [3, 3]), [0, 4, 0, 0, 1, 3, 2])
        self.assertEqual(greatest_of(2, [1] * 5, [1] * 3), [0, 2, 3])
        self.assertEqual(greatest_of(2, [-1] * 5, [1] * 3), [0, 2, -5])
        self.assertEqual(greatest_of(2, [-1] * 5, [-1] * 7), [0, 2, -7])

    def test_below_nought(self):
        self.assertEqual(greatest_of(3, [-1], []), forms_of(3, [[-1]])[0])
        self.assertEqual(greatest_of(3, [-1], [1]), forms_of(3, [[-1]])[0])
        self.assertEqual(greatest_of(3, [-1], [-2]), [0, 3, -1])
        self.assertEqual(greatest_of(4, [-1], [-3]), forms_of(4, [[-1, -3]])[0])

    def test_a_braid_with_itself(self):
        for n in (2, 3, 4, 16):
            for seed, signs in itertools.product(range(5), ((1,), (-1,), (-1, 1))):
                row = some_row(20, seed, n, signs)
                self.assertEqual(greatest_of(n, row, moved_about(n, row, 10, seed, 40)), forms_of(n, [row])[0])
                given = line(set_to(0, n, row), form(0), greatest(0, 0, 0), form(0))
                self.assertEqual(given[2:], [[0], given[1]])

    def test_one_that_begins_the_other(self):
        for n in (2, 3, 4, 16):
            for seed, signs in itertools.product(range(5), ((1,), (-1,), (-1, 1))):
                row = some_row(15, seed, n, signs)
                longer = row + some_row(15, f"more {seed}", n, (1,))
                self.assertEqual(greatest_of(n, row, longer), forms_of(n, [row])[0])
                self.assertEqual(greatest_of(n, longer, row), forms_of(n, [row])[0])

    def check_by_the_words(self, n, a, b, others):
        found = read_form(greatest_of(n, a, b))
        check_form(found)
        row = row_of_form(found)
        self.assertTrue(plainly_begins(n, row, a) and plainly_begins(n, row, b), (a, b))
        begins_both = 0
        for other in others:
            if plainly_begins(n, other, a) and plainly_begins(n, other, b):
                begins_both += 1
                self.assertTrue(plainly_begins(n, other, row), (a, b, other))
        return begins_both

    def test_all_of_three_above_nought(self):
        rows = all_braids(3, 4, (1, 2))
        for a, b in itertools.combinations_with_replacement(rows, 2):
            self.assertGreater(self.check_by_the_words(3, a, b, rows), 0)

    def test_all_of_four_above_nought(self):
        rows = all_braids(4, 3, (1, 2, 3))
        for a, b in itertools.combinations(rows, 2):
            self.assertGreater(self.check_by_the_words(4, a, b, rows), 0)

    def test_three_with_half_twists_below_nought_on_one_side_or_on_both(self):
        behind = [[], [1], [2, 1], [1, 1], [2, 2, 1], [1, 2, 2]]
        others = [with_half_twists(3, -2, row) for row in all_braids(3, 6, (1, 2))]
        for one, other in ((-1, 0), (0, -1), (-1, -1), (-2, 0), (-2, -1), (-1, 1), (1, 1), (-2, -2)):
            for a, b in itertools.product(behind, behind):
                a, b = with_half_twists(3, one, a), with_half_twists(3, other, b)
                self.assertGreater(self.check_by_the_words(3, a, b, others), 0)

    def test_rows_with_any_signs(self):
        rows = all_braids(3, 2)
        others = [with_half_twists(3, -2, row) for row in all_braids(3, 7, (1, 2))]
        for a, b in itertools.combinations(rows, 2):
            self.assertGreater(self.check_by_the_words(3, a, b, others), 0)

    def check_no_step_beyond(self, n, a, b):
        """There is just one greatest, so it's enough that none with a crossing more begins both."""
        sets = [set_to(0, n, a), set_to(1, n, b), greatest(2, 0, 1)]
        given = line(*sets, starts(2, 0), starts(2, 1), form(2))
        self.assertEqual(given[2:5], [[0], [1], [1]])
        check_form(read_form(given[5]))
        begun = []
        for place in (0, 1):
            steps = [[set_to(3, n, [i]), times(3, 2, 3), starts(3, place)] for i in range(1, n)]
            begun.append(line(*sets, *itertools.chain.from_iterable(steps))[5::3])
        self.assertEqual([len(each) for each in begun], [n - 1, n - 1])
        self.assertNotIn(([1], [1]), list(zip(*begun)))
        return given[5]

    def test_sixteen(self):
        for seed, signs, others in itertools.product(range(4), ((1,), (-1,), (-1, 1)), ((1,), (-1,), (-1, 1))):
            start = some_row(20, f"start {seed}", 16, (-1, 1))
            a, b = some_row(40, f"a {seed}", 16, signs), some_row(40, f"b {seed}", 16, others)
            self.check_no_step_beyond(16, start + a, start + b)

    def test_larger_ones_of_four(self):
        for seed, signs in itertools.product(range(8), ((1,), (-1,), (-1, 1))):
            start = some_row(12, f"start {seed}", 4, signs)
            a, b = some_row(20, f"a {seed}", 4, (-1, 1, 1)), some_row(20, f"b {seed}", 4, signs)
            self.check_no_step_beyond(4, start + a, start + b)

    def test_much_in_common(self):
        start = some_row(40, "much", 16, (1,))
        found = read_form(self.check_no_step_beyond(16, start + [1, 1, 1], start + [3, 3, 3]))
        self.assertGreaterEqual(len(row_of_form(found)), 40)

    def test_which_one_is_named_first_does_not_matter(self):
        for n in (2, 3, 4, 16):
            for seed in range(10):
                a, b = some_row(20, f"a{seed}", n), some_row(20, f"b{seed}", n)
                self.assertEqual(greatest_of(n, a, b), greatest_of(n, b, a))

    def test_it_hangs_on_the_braids_alone(self):
        for n in (2, 3, 4, 16):
            for seed in range(5):
                a, b = some_row(10, f"a{seed}", n), some_row(10, f"b{seed}", n)
                found = greatest_of(n, a, b)
                self.assertEqual(greatest_of(n, moved_about(n, a, 20, 1, 30), moved_about(n, b, 20, 2, 30)), found)

    def test_a_row_before_both_comes_before_it(self):
        for n in (3, 4, 16):
            for seed in range(6):
                start, a, b = [some_row(12, f"{part}{seed}", n) for part in "sab"]
                given = line(set_to(0, n, a), set_to(1, n, b), set_to(2, n, start), greatest(3, 0, 1), times(3, 2, 3),
                             times(0, 2, 0), times(1, 2, 1), greatest(4, 0, 1), form(3), form(4))
                self.assertEqual(given[8], given[9])

    def test_with_the_braid_without_crossings(self):
        for n in (3, 4, 16):
            for seed in range(6):
                row = some_row(15, seed, n, (1,))
                self.assertEqual(greatest_of(n, row, []), [0, n, 0])
                self.assertEqual(greatest_of(n, backward(row), []), forms_of(n, [backward(row)])[0])

    def test_many_half_twists(self):
        half = plain_row(twist(16))
        row = some_row(30, "many", 16, (1,))
        calls = made(0, 16, half) + [power(0, 0, 8), power(1, 0, 8), power(2, 0, 4), times(0, 1, 2), inverse(1, 0),
                                     set_to(2, 16, row), greatest(3, 0, 2), greatest(4, 1, 2), greatest(5, 1, 0)]
        given = line(*calls, form(0), form(1), form(2), form(3), form(4), form(5))[-6:]
        self.assertEqual(given[:2], [[0, 16, 96], [0, 16, -96]])
        self.assertEqual(given[3], given[2])
        self.assertEqual(given[4:], [[0, 16, -96], [0, 16, -96]])

    def test_half_twists_far_apart_with_factors(self):
        for seed in range(5):
            a, b = some_row(20, f"a{seed}", 3, (1,)), some_row(20, f"b{seed}", 3, (1,))
            calls = [set_to(0, 3, [1, 2, 1] * 25), power(0, 0, 3), set_to(1, 3, a), set_to(2, 3, b), times(3, 0, 1),
                     inverse(4, 0), times(4, 4, 2)]
            given = line(*calls, form(3), form(4), greatest(5, 3, 4), form(5), greatest(5, 4, 3), form(5))[-6:]
            self.assertGreaterEqual(given[0][2], 75)
            self.assertLessEqual(given[1][2], -50)
            self.assertEqual(given[2:], [[0], given[1], [0], given[1]])

    def test_the_place_may_be_one_that_is_read(self):
        for place in (0, 1):
            given = line(set_to(0, 4, [1, 2, 3, 3]), set_to(1, 4, [1, 2, 1, 1]), greatest(place, 0, 1), form(place),
                         form(1 - place))
            check_means(given[3], 4, [1, 2])
            self.assertEqual(given[4], forms_of(4, [[1, 2, 1, 1] if place == 0 else [1, 2, 3, 3]])[0])


if __name__ == "__main__":
    unittest.main()
