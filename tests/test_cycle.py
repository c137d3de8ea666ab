"""Call 18: cycle, held against the products that the document names."""

import itertools
import unittest

from helper import (MOST_WHOLE, SAME, ask, backward, check_means, cycle, form, forms_of, inverse, line, plain_row,
                    read_form, set_to, some_row, times, told, turned, twist)

LASTS = (1, 2, MOST_WHOLE)


def some_braids():
    """Rows whose forms have half twists odd and even, above 0 and below, and from none to many factors."""
    for n in (3, 4, 6, 16):
        half = plain_row(twist(n)) if n < 16 else []
        for twists in (-3, -2, -1, 0, 1, 2) if half else (0,):
            start = half * twists if twists >= 0 else backward(half) * -twists
            for behind in ([1], [1, 2], [1, 2, 2], [2, 1, 1, 2], some_row(9, n, n, (1,)), some_row(5, n, n, (-1,))):
                yield n, start + behind
    for n, seed, signs in itertools.product((3, 4, 5, 16), range(6), ((1,), (-1,), (-1, 1))):
        yield n, some_row(25, seed, n, signs)


def cycled(n, row, last):
    given = line(set_to(0, n, row), cycle(1, 0, last), form(1), form(0))
    if given[1] != [0] or given[3] != forms_of(n, [row])[0]:
        raise AssertionError(f"cycle of {row}: {given}")
    return given[2]


class Written(unittest.TestCase):
    def test_with_the_first(self):
        self.assertEqual(cycled(3, [1, 1, 2], 0), [0, 3, 1])
        self.assertEqual(cycled(3, [1], 0), [0, 3, 0, 1, 0, 2])
        self.assertEqual(cycled(4, [1, 1, 3], 0), [0, 4, 0, 1, 0, 3, 2, 1, 0, 2, 3])

    def test_with_the_last(self):
        self.assertEqual(cycled(3, [1, 2, 2], 1), [0, 3, 1])
        self.assertEqual(cycled(4, [1, 1, 2], 1), [0, 4, 0, 2, 1, 0, 3])
        self.assertEqual(cycled(3, [1], 1), [0, 3, 0, 1, 0, 2])

    def test_first_and_last_differ(self):
        row = [1, 1, 2, 2, 2]
        self.assertEqual(cycled(4, row, 0), forms_of(4, [[1, 2, 2, 2, 1]])[0])
        self.assertEqual(cycled(4, row, 1), forms_of(4, [[2, 1, 1, 2, 2]])[0])
        self.assertNotEqual(cycled(4, row, 0), cycled(4, row, 1))

    def test_the_first_is_turned_if_half_twists_are_odd(self):
        # Behind one half twist of three the first factor 1 comes before it as 2.
        self.assertEqual(forms_of(3, [[1, 2, 1, 1, 1]])[0], [0, 3, 1, 1, 0, 2, 1, 0, 2])
        self.assertEqual(cycled(3, [1, 2, 1, 1, 1], 0), forms_of(3, [[1, 2, 1, 1, 2]])[0])

    def test_without_factors(self):
        for n, row in ((2, []), (2, [1]), (2, [-1] * 7), (3, []), (3, [1, 2, 1]), (4, backward(plain_row(twist(4)))),
                       (16, [])):
            for last in (0,) + LASTS:
                self.assertEqual(cycled(n, row, last), forms_of(n, [row])[0])

    def test_the_place_may_be_the_one_that_is_read(self):
        for last in (0, 1):
            given = line(set_to(0, 4, [1, 1, 2, 2, 2]), cycle(1, 0, last), form(1), cycle(0, 0, last), form(0))
            self.assertEqual(given[2], given[4])


class ByTheWords(unittest.TestCase):
    def test_with_the_first(self):
        odd = 0
        for n, row in some_braids():
            found = read_form(forms_of(n, [row])[0])
            if found.factors:
                first = found.factors[0]
                if found.twists % 2:
                    odd += 1
                    first = ask(turned(n, first))[1:]
                first = plain_row(first)
                check_means(cycled(n, row, 0), n, backward(first) + row + first)
        self.assertGreater(odd, 30)

    def test_with_the_last(self):
        for n, row in some_braids():
            found = read_form(forms_of(n, [row])[0])
            if found.factors:
                last = plain_row(found.factors[-1])
                for told_last in LASTS:
                    check_means(cycled(n, row, told_last), n, last + row + backward(last))

    def test_by_calls(self):
        for n, row in some_braids():
            found = read_form(forms_of(n, [row])[0])
            for last in (0, 1):
                if not found.factors:
                    continue
                factor = found.factors[-1 if last else 0]
                if not last and found.twists % 2:
                    factor = [n - 1 - factor[n - 1 - i] for i in range(n)] + SAME[n:]
                if len(plain_row(factor)) <= 100:
                    sides = [times(3, 1, 0), times(3, 3, 2)] if last else [times(3, 2, 0), times(3, 3, 1)]
                    given = line(set_to(0, n, row), set_to(1, n, plain_row(factor)), inverse(2, 1), *sides, form(3),
                                 cycle(4, 0, last), form(4))
                    self.assertEqual(given[5], given[7])

    def test_crossings_and_loops_stay(self):
        for n, row in some_braids():
            given = line(set_to(0, n, row), cycle(1, 0, 0), cycle(2, 0, 1), told(0), told(1), told(2))[3:]
            self.assertEqual(given[1][:3], given[0][:3])
            self.assertEqual(given[2][:3], given[0][:3])


if __name__ == "__main__":
    unittest.main()
