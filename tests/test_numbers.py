"""Calls 9 and 10: number and numbered."""

import math
import unittest

from helper import SAME, TWIST, WRONG_COUNTS, ask, ask_all, number, numbered, right_for, some_permutations

MOST = 18446744073709551615


def half_twist(n):
    return list(range(n - 1, -1, -1)) + SAME[n:]


class Number(unittest.TestCase):
    def test_counts_those_that_come_before(self):
        for n in range(2, 7):
            right = right_for(n)
            given = ask_all([number(n, a) for a in right])
            self.assertEqual(given, [[0, i] for i in range(len(right))])

    def test_first_and_last(self):
        for n in range(2, 17):
            self.assertEqual(ask(number(n, SAME)), [0, 0])
            self.assertEqual(ask(number(n, half_twist(n))), [0, math.factorial(n) - 1])

    def test_the_count_matters(self):
        swap = [1, 0] + SAME[2:]
        for n in range(2, 17):
            self.assertEqual(ask(number(n, swap)), [0, math.factorial(n - 1)])

    def test_sixteen(self):
        self.assertEqual(ask(number(16, TWIST)), [0, 20922789887999])
        self.assertEqual(ask(number(16, SAME[:14] + [15, 14])), [0, 1])


class Numbered(unittest.TestCase):
    def test_in_order(self):
        for n in range(2, 7):
            right = right_for(n)
            given = ask_all([numbered(i, n) for i in range(len(right))])
            self.assertEqual(given, [[0] + a for a in right])

    def test_at_and_above_all(self):
        for n in range(2, 17):
            size = math.factorial(n)
            self.assertEqual(ask(numbered(size - 1, n)), [0] + half_twist(n))
            self.assertEqual(ask(numbered(size, n)), [0] + SAME)
            self.assertEqual(ask(numbered(size + 1, n)), ask(numbered(1 % size, n)))
            self.assertEqual(ask(numbered(7 * size - 1, n)), [0] + half_twist(n))

    def test_the_greatest(self):
        for n in range(2, 17):
            left = MOST % math.factorial(n)
            given = ask(numbered(MOST, n))
            self.assertEqual(given, ask(numbered(left, n)))
            self.assertEqual(ask(number(n, given[1:])), [0, left])

    def test_the_greatest_written_out(self):
        # 2^64 - 1 is odd, and leaves 3 over 6.
        self.assertEqual(ask(numbered(MOST, 2)), [0, 1, 0] + SAME[2:])
        self.assertEqual(ask(numbered(MOST, 3)), [0, 1, 2, 0] + SAME[3:])

    def test_wrong_counts(self):
        for n in WRONG_COUNTS:
            for i in (0, 1, 2, 20922789888000, MOST):
                self.assertEqual(ask(numbered(i, n)), [-1])

    def test_least_counts(self):
        self.assertEqual(ask(numbered(0, 2)), [0] + SAME)
        self.assertEqual(ask(numbered(1, 2)), [0, 1, 0] + SAME[2:])
        self.assertEqual(ask(numbered(2, 2)), [0] + SAME)


class Undone(unittest.TestCase):
    def test_number_then_numbered(self):
        for n in range(2, 17):
            for a in some_permutations(20, n=n, seed=n):
                i = ask(number(n, a))[1]
                self.assertTrue(0 <= i < math.factorial(n))
                self.assertEqual(ask(numbered(i, n)), [0] + a)

    def test_numbered_then_number(self):
        for n in range(2, 17):
            for part in range(17):
                i = (math.factorial(n) - 1) * part // 16
                self.assertEqual(ask(number(n, ask(numbered(i, n))[1:])), [0, i])

    def test_order_of_numbers_is_that_of_the_first_number_that_differs(self):
        found = sorted(some_permutations(50, seed=8))
        numbers = [ask(number(16, a))[1] for a in found]
        self.assertEqual(numbers, sorted(numbers))


if __name__ == "__main__":
    unittest.main()
