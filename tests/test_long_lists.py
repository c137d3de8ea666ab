"""Lists of sixty calls with much to do are answered in a time that one can wait for."""

import time
import unittest

from braidbook.book import answers
from helper import (apart, backward, cycle, form, greatest, inverse, order, power, read_form, row_at, set_to, some_row,
                    starts, states, times, told)

# Far beyond what is needed, so that a slow machine is no fault.
SECONDS = 60


class LongLists(unittest.TestCase):
    def answered(self, calls):
        self.assertEqual(len(calls), 60)
        whole = [number for call in calls for number in call]
        self.assertLessEqual(len(whole), 2300)
        start = time.monotonic()
        given = answers(whole)
        self.assertLess(time.monotonic() - start, SECONDS)
        parts = apart(given)
        self.assertEqual(len(parts), 60)
        return parts

    def check_factors(self, answer, least, most):
        factors = len(read_form(answer).factors)
        self.assertTrue(least <= factors <= most, factors)

    def test_powers_of_crossings_that_pass_one_another(self):
        # Each factor behind has to be handed over through nearly all before it.
        sets = [set_to(0, 16, [1] * 60 + [3] * 40), set_to(1, 16, [5] * 50 + [7] * 30),
                set_to(2, 16, [9] * 20 + [11] * 10)]
        product = [times(0, 0, 1), times(0, 0, 2), form(0)]
        powers = [power(3, 0, e) for e in (8, -8)] * 27
        given = self.answered(sets + product + powers)
        self.check_factors(given[5], 60, 60)
        self.assertEqual(given[6:], [[-3]] * 54)

    def test_braids_near_sixty_factors(self):
        rows = [some_row(100, f"near {place}", 16, (1,)) for place in range(16)]
        calls = [set_to(place, 16, row) for place, row in enumerate(rows)]
        calls += [times(0, place, 0) for place in (1, 2, 3)] + [times(4, place, 4) for place in (5, 6, 7)]
        calls += [form(0), form(4), times(1, 0, 8), times(2, 0, 9), greatest(3, 1, 2), form(3), starts(0, 1)]
        calls += [inverse(6, 0), times(9, 6, 0), form(9), cycle(8, 0, 0), cycle(8, 8, 1), order(0, 4), order(4, 0)]
        calls += [power(10, 0, e) for e in (-8, -4, 4, 7, 8)] + [power(10, 4, e) for e in (-8, 8)]
        calls += [greatest(11, a, 4) for a in (0, 1, 2, 6, 8, 12, 13)] + [starts(a, 4) for a in (6, 0)]
        calls += [told(0), row_at(0), form(0), form(4), form(10), form(1), row_at(4), told(4)]
        given = self.answered(calls)
        self.assertEqual(given[:22], [[0]] * 22)
        self.check_factors(given[22], 40, 60)
        self.check_factors(given[23], 40, 60)
        self.assertEqual(given[24:27], [[0]] * 3)
        self.check_factors(given[27], 40, 60)
        self.assertEqual(given[28:31], [[1], [0], [0]])
        self.assertEqual(given[31], [0, 16, 0])
        self.assertEqual(given[36:43], [[-3]] * 7)
        self.assertEqual(given[43:50], [[0]] * 7)
        self.assertEqual(given[54:56], given[22:24])

    def test_rows_below_nought(self):
        rows = [[-1] * 60, [-5] * 60, [-15] * 59 + [-1]]
        rows += [some_row(100, f"below {seed}", 16, (-1,)) for seed in range(12)]
        calls = [set_to(place, 16, row) for place, row in enumerate(rows)]
        calls += [greatest(15, a, b) for a in range(3) for b in range(3, 13)]
        calls += [power(15, a, e) for a in (0, 1, 2) for e in (8, -8)]
        calls += [starts(a, b) for a in (0, 1, 2) for b in (0, 1, 2)]
        given = self.answered(calls)
        self.assertEqual(given[:45], [[0]] * 45)
        self.assertEqual(given[45:51], [[-3]] * 6)
        self.assertEqual(given[51:], [[1], [0], [0], [0], [1], [0], [0], [0], [1]])

    def test_a_power_with_many_half_twists_between(self):
        about = some_row(40, "about", 16, (1,))
        calls = [set_to(0, 16, about), set_to(1, 16, list(range(1, 16))), set_to(2, 16, backward(about)),
                 times(1, 0, 1), times(1, 1, 2)]
        calls += [power(3, 1, 8), power(4, 3, 2), form(4)] + [power(5, 1, e) for e in (8, -8)] * 26
        given = self.answered(calls)
        # The sixteenth power of a root of the full twist, turned about or not, is the full twist.
        self.assertEqual(given[7], [0, 16, 2])
        self.assertEqual(given[8:], [[0]] * 52)

    def test_states(self):
        calls = [states(place % 16, 6, some_row(10, f"states {place}", 6)) for place in range(60)]
        self.assertTrue(all(len(answer) == 94 for answer in self.answered(calls)))

    def test_long_rows_told(self):
        calls = [set_to(0, 16, [-1] * 20), set_to(1, 16, [-3] * 22), times(2, 0, 1)]
        given = self.answered(calls + [row_at(0), told(2), row_at(2)] * 19)
        self.assertEqual([len(row) for row in given[3::3]], [1 + 20 * 120 + 20 * 119] * 19)
        self.assertEqual(given[5::3], [[-3]] * 19)


if __name__ == "__main__":
    unittest.main()
