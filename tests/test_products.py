"""Calls 14, 15 and 16: times, inverse and power are those of braids, whatever row a braid came by (P2)."""

import itertools
import unittest

from helper import (all_braids, backward, check_means, cycle, form, forms_of, greatest, inverse, line, moved_about,
                    order, plain_row, power, read_form, row_at, set_to, some_row, starts, times, told, twist)

COUNTS = (2, 3, 4, 7, 16)
SIGNS = ((1,), (-1,), (-1, 1))


def some_pairs():
    for n, signs, others in itertools.product(COUNTS, SIGNS, SIGNS):
        for length in (0, 1, 4, 25):
            yield n, some_row(length, f"a {n} {length}", n, signs), some_row(25 - length, f"b {n} {length}", n, others)


def some_braids():
    for n, signs, length in itertools.product(COUNTS, SIGNS, (0, 1, 2, 5, 12)):
        yield n, some_row(length, f"{n} {length}", n, signs)


class Times(unittest.TestCase):
    def test_written(self):
        given = line(set_to(0, 3, [1, 2]), set_to(1, 3, [1]), times(2, 0, 1), form(2), times(2, 1, 0), form(2))
        self.assertEqual(given[2:], [[0], [0, 3, 1], [0], [0, 3, 0, 1, 0, 2, 2, 0, 1]])

    def test_half_twists_turn_what_they_pass(self):
        given = line(set_to(0, 3, [1]), set_to(1, 3, [1, 2, 1]), times(2, 0, 1), form(2), times(3, 2, 1), form(3))
        self.assertEqual(given[3], [0, 3, 1, 0, 2, 1])
        self.assertEqual(given[5], [0, 3, 2, 1, 0, 2])

    def test_the_one_row_and_behind_it_the_other(self):
        for n, a, b in some_pairs():
            given = line(set_to(4, n, a), set_to(9, n, b), times(15, 4, 9), form(15), set_to(0, n, a + b), form(0),
                         form(4), form(9))
            self.assertEqual(given[2], [0])
            self.assertEqual(given[3], given[5])
            self.assertEqual(given[6:], forms_of(n, [a, b]))
            check_means(given[3], n, a + b)

    def test_all_of_a_few(self):
        rows = all_braids(3, 2)
        sums = iter(forms_of(3, [a + b for a in rows for b in rows]))
        for a, b in itertools.product(rows, rows):
            self.assertEqual(line(set_to(0, 3, a), set_to(1, 3, b), times(2, 0, 1), form(2))[3], next(sums))

    def test_the_braid_without_crossings(self):
        for n, a in some_braids():
            given = line(set_to(0, n, a), set_to(1, n, []), times(2, 0, 1), times(3, 1, 0), form(2), form(3), form(0))
            self.assertEqual(given[4], given[6])
            self.assertEqual(given[5], given[6])

    def test_which_two_come_first_does_not_matter(self):
        for n in COUNTS:
            rows = [some_row(12, seed, n) for seed in range(3)]
            sets = [set_to(place, n, row) for place, row in enumerate(rows)]
            given = line(*sets, times(3, 0, 1), times(4, 3, 2), times(5, 1, 2), times(6, 0, 5), form(4), form(6))
            self.assertEqual(given[-2], given[-1])

    def test_the_place_may_be_one_that_is_read(self):
        for n, a, b in some_pairs():
            product, square = forms_of(n, [a + b, a + a])
            sets = [set_to(0, n, a), set_to(1, n, b)]
            self.assertEqual(line(*sets, times(0, 0, 1), form(0), form(1))[2:], [[0], product] + forms_of(n, [b]))
            self.assertEqual(line(*sets, times(1, 0, 1), form(1), form(0))[2:], [[0], product] + forms_of(n, [a]))
            self.assertEqual(line(*sets, times(0, 0, 0), form(0)), [[0], [0], [0], square])


class Inverse(unittest.TestCase):
    def test_written(self):
        given = line(set_to(0, 3, [1]), inverse(1, 0), form(1), set_to(0, 2, [1, 1]), inverse(1, 0), form(1))
        self.assertEqual(given[1:3], [[0], [0, 3, -1, 2, 0, 1]])
        self.assertEqual(given[4:], [[0], [0, 2, -2]])

    def test_the_row_backward_with_all_signs_changed(self):
        for n, a in some_braids():
            given = line(set_to(5, n, a), inverse(6, 5), form(6), form(5))
            self.assertEqual(given[1:], [[0]] + forms_of(n, [backward(a), a]))
            check_means(given[2], n, backward(a))

    def test_a_braid_and_its_inverse_go(self):
        for n, a in some_braids():
            given = line(set_to(0, n, a), inverse(1, 0), times(2, 0, 1), times(3, 1, 0), form(2), form(3))
            self.assertEqual(given[4:], [[0, n, 0], [0, n, 0]])

    def test_twice_is_the_braid(self):
        for n, a in some_braids():
            given = line(set_to(0, n, a), form(0), inverse(0, 0), inverse(0, 0), form(0))
            self.assertEqual(given[4], given[1])

    def test_of_a_product(self):
        for n, a, b in some_pairs():
            given = line(set_to(0, n, a), set_to(1, n, b), times(2, 0, 1), inverse(2, 2), inverse(0, 0), inverse(1, 1),
                         times(3, 1, 0), form(2), form(3))
            self.assertEqual(given[7], given[8])

    def test_odd_and_even_half_twists(self):
        half = plain_row(twist(4))
        for twists, behind in itertools.product((-3, -2, -1, 0, 1, 2, 3), ([1], [1, 1], [1, 2, 2], [3, 3, 2, 2, 1])):
            row = (half if twists > 0 else backward(half)) * abs(twists) + behind
            given = line(set_to(0, 4, row), inverse(0, 0), form(0))
            check_means(given[2], 4, backward(row))


class Power(unittest.TestCase):
    def test_written(self):
        given = line(set_to(0, 3, [1, 2]), power(1, 0, 3), form(1), power(1, 0, -3), form(1), power(1, 0, 0), form(1))
        self.assertEqual(given[1:], [[0], [0, 3, 2], [0], [0, 3, -2], [0], [0, 3, 0]])

    def test_against_times(self):
        for n, a in some_braids():
            for e in (-8, -7, -5, -2, -1, 0, 1, 2, 3, 5, 8):
                if len(a) * abs(e) <= 60:
                    calls = [set_to(0, n, a), power(1, 0, e), form(1), set_to(2, n, []), inverse(3, 0)]
                    given = line(*calls, *[times(2, 2, 0 if e > 0 else 3)] * abs(e), form(2))
                    self.assertEqual((given[1], given[2]), ([0], given[-1]), (n, a, e))

    def test_against_the_row_so_many_times(self):
        for n, a in some_braids():
            if len(a) <= 5:
                for e in range(-8, 9):
                    row = a * e if e >= 0 else backward(a) * -e
                    given = line(set_to(7, n, a), power(8, 7, e), form(8), form(7))
                    self.assertEqual(given[1], [0])
                    check_means(given[2], n, row)
                    self.assertEqual(given[3], forms_of(n, [a])[0])

    def test_of_nought_and_one(self):
        for n, a in some_braids():
            given = line(set_to(0, n, a), power(1, 0, 0), form(1), power(1, 0, 1), form(1), power(0, 0, -1), form(0))
            self.assertEqual(given[1:], [[0], [0, n, 0], [0]] + forms_of(n, [a]) + [[0]] + forms_of(n, [backward(a)]))

    def test_beyond_eight(self):
        for e in (-9, 9, 10, -10, 100, -2147483648, 2147483647):
            given = line(set_to(0, 3, []), set_to(1, 3, [1]), power(1, 0, e), form(1))
            self.assertEqual(given[2:], [[-3], [0, 3, 0, 1, 0, 2]])

    def test_a_power_that_is_small_though_those_between_are_too_large(self):
        # A fifth root of the full twist, turned about a long braid.
        row = [2] * 30 + [1, 2, 3, 4] + [-2] * 30
        given = line(set_to(0, 5, row), form(0), times(1, 0, 0), power(1, 0, 2), power(1, 0, 5), form(1),
                     power(1, 0, 6), form(1), power(1, 0, -5), form(1), power(1, 0, 7))
        self.assertEqual(len(read_form(given[1]).factors), 60)
        self.assertEqual(given[2:4], [[-3], [-3]])
        self.assertEqual(given[4:6], [[0], [0, 5, 2]])
        self.assertEqual(given[6:8], [[0], [0, 5, given[1][2] + 2] + given[1][3:]])
        self.assertEqual(given[8:], [[0], [0, 5, -2], [-3]])


class ByAnyRow(unittest.TestCase):
    """What's told of braids is the same whatever rows they came by."""

    ASKED = [
        times(2, 0, 1), form(2), inverse(3, 0), form(3), power(4, 0, 3), form(4), greatest(5, 0, 1), form(5),
        cycle(6, 0, 0), form(6), cycle(7, 0, 1), form(7), order(0, 1), order(1, 0), order(0, 0), starts(0, 1),
        starts(1, 0), starts(5, 0), form(0), row_at(0), told(0), row_at(2), told(2), row_at(5), told(5),
    ]

    def test_the_same_for_rows_of_one_braid(self):
        for n, signs, others in itertools.product((2, 3, 4, 16), SIGNS, SIGNS):
            for seed in range(3):
                a, b = some_row(8, f"{n} {seed}", n, signs), some_row(6, f"{seed} {n}", n, others)
                first = line(set_to(0, n, a), set_to(1, n, b), *self.ASKED)
                a, b = moved_about(n, a, 30, seed, 30), moved_about(n, b, 30, seed, 30)
                self.assertEqual(line(set_to(0, n, a), set_to(1, n, b), *self.ASKED), first)


if __name__ == "__main__":
    unittest.main()
