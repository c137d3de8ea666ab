"""What is refused, and with which number; what is named first counts; the book is then as it was (P5)."""

import itertools
import unittest

from helper import (MOST_WHOLE, SAME, ask, back, cycle, follow, form, greatest, inverse, line, order, power, read_form,
                    row_at, set_to, starts, states, times, told)

NO_PLACES = (16, 17, 4294967294, MOST_WHOLE)
HALF = [1, 2, 1]

# Of three strands: 0 and 1 small, 3 with 100 half twists, 4 with -100, 5 with 60 factors.
# Of four strands: 2. Places 6 to 14 are empty, 15 has one of two strands.
BOOK = [
    set_to(0, 3, [1]), set_to(1, 3, [2, 2]), set_to(2, 4, [1]), set_to(3, 3, HALF * 25), power(3, 3, 4),
    inverse(4, 3), set_to(5, 3, [1] * 60), set_to(15, 2, [-1] * 100),
]
EMPTY = (6, 14) + NO_PLACES
WHOLE_BOOK = [form(place) for place in range(16)]


def on_book(*calls):
    """The answers to the calls, behind those that fill the book."""
    given = line(*BOOK, *calls)
    if given[:len(BOOK)] != [[0]] * len(BOOK):
        raise AssertionError(f"the book isn't filled: {given}")
    return given[len(BOOK):]


class Checks(unittest.TestCase):
    def check_refused(self, call, number):
        """Refused with that number alone, and every place tells what it told before."""
        given = on_book(call, *WHOLE_BOOK)
        self.assertEqual(given[0], [number], call)
        self.assertEqual(given[1:], on_book(*WHOLE_BOOK), call)

    def check_done(self, call):
        self.assertEqual(on_book(call)[0], [0], call)


class TheBook(Checks):
    def test_as_it_is_meant(self):
        given = on_book(*WHOLE_BOOK)
        self.assertEqual(given[0], [0, 3, 0, 1, 0, 2])
        self.assertEqual(given[3:5], [[0, 3, 100], [0, 3, -100]])
        self.assertEqual(given[5], [0, 3, 0] + [1, 0, 2] * 60)
        self.assertEqual(given[6:15], [[-4]] * 9)
        self.assertEqual(given[15], [0, 2, -100])

    def test_all_places_are_empty_at_the_beginning(self):
        self.assertEqual(line(*WHOLE_BOOK), [[-4]] * 16)
        on_book(*WHOLE_BOOK)
        self.assertEqual(line(*WHOLE_BOOK), [[-4]] * 16)

    def test_fifteen_is_the_last_place(self):
        for make in (set_to(15, 3, [1]), times(15, 0, 1), inverse(15, 0), power(15, 0, 2), greatest(15, 0, 1),
                     cycle(15, 0, 0)):
            given = on_book(make, form(15))
            self.assertEqual((given[0], given[1][:2]), ([0], [0, 3]))


class Set(Checks):
    def test_strands(self):
        for n in (0, 1, 17, 18, MOST_WHOLE):
            self.check_refused(set_to(0, n, []), -1)
            self.check_refused(set_to(0, n, [1]), -1)
        for n in range(2, 17):
            self.check_done(set_to(0, n, [1 - n]))

    def test_length(self):
        self.check_done(set_to(0, 3, [1, -1] * 50))
        self.check_done(set_to(0, 2, [1] * 100))
        self.check_refused(set_to(0, 2, [1] * 101), -3)
        self.check_refused(set_to(0, 3, [1, -1] * 50 + [1]), -3)
        self.assertEqual(ask(set_to(0, 3, [1, -1] * 1000)), [-3])

    def test_crossings(self):
        for n in (2, 3, 15, 16):
            for wrong in (0, n, -n, 16, -16, 2147483647, -2147483648):
                for row in ([wrong], [1, wrong, 1], [wrong] + [1] * 99, [-1] * 99 + [wrong]):
                    self.check_refused(set_to(0, n, row), -1)

    def test_place(self):
        for place in NO_PLACES:
            self.check_refused(set_to(place, 3, [1]), -1)
            self.check_refused(set_to(place, 3, []), -1)

    def test_too_large(self):
        self.check_done(set_to(0, 3, [1] * 60))
        self.check_refused(set_to(0, 3, [1] * 61), -3)
        self.check_done(set_to(0, 3, [-1] * 60))
        self.check_refused(set_to(0, 3, [-1] * 61), -3)
        self.check_refused(set_to(0, 16, [15] * 100), -3)
        self.check_refused(set_to(0, 16, [-15] * 61), -3)
        self.check_done(set_to(0, 2, [-1] * 100))

    def test_only_the_braid_itself_is_measured(self):
        self.check_done(set_to(0, 3, [1] * 80 + [-1] * 20))
        self.check_refused(set_to(0, 3, [1] * 80 + [-1] * 19), -3)
        self.check_done(set_to(0, 16, [3] * 50 + [1] * 50))

    def test_what_is_named_first_counts(self):
        self.check_refused(set_to(0, 1, [1] * 101), -1)
        self.check_refused(set_to(0, 17, [1] * 101), -1)
        self.check_refused(set_to(16, 0, [99] * 101), -1)
        self.check_refused(set_to(0, 3, [3] * 101), -3)
        self.check_refused(set_to(0, 3, [0] + [1] * 100), -3)
        self.check_refused(set_to(16, 3, [1] * 101), -3)
        self.check_refused(set_to(16, 3, [3] * 101), -3)
        self.check_refused(set_to(0, 3, [1] * 61 + [3]), -1)
        self.check_refused(set_to(16, 3, [1] * 61 + [3]), -1)
        self.check_refused(set_to(16, 3, [1] * 61), -1)
        self.check_refused(set_to(MOST_WHOLE, 16, [1] * 100), -1)


class OfTwo(Checks):
    """times and greatest."""

    def test_empty(self):
        for make, empty in itertools.product((times, greatest), EMPTY):
            self.check_refused(make(0, empty, 1), -4)
            self.check_refused(make(0, 1, empty), -4)
            self.check_refused(make(0, empty, empty), -4)
            self.check_refused(make(empty, empty, empty), -4)

    def test_other_numbers_of_strands(self):
        for make in (times, greatest):
            for a, b in ((0, 2), (2, 0), (15, 0), (2, 15), (3, 2)):
                self.check_refused(make(0, a, b), -2)

    def test_place(self):
        for make, place in itertools.product((times, greatest), NO_PLACES):
            self.check_refused(make(place, 0, 1), -1)
            self.check_refused(make(place, 0, 0), -1)

    def test_what_is_named_first_counts(self):
        for make in (times, greatest):
            self.check_refused(make(16, 6, 2), -4)
            self.check_refused(make(16, 2, 16), -4)
            self.check_refused(make(16, 0, 2), -2)
            self.check_refused(make(MOST_WHOLE, 3, 2), -2)
        self.check_refused(times(16, 3, 3), -1)
        self.check_refused(times(16, 5, 5), -1)
        self.check_refused(times(0, 3, 6), -4)
        self.check_refused(times(0, 5, 15), -2)

    def test_factors(self):
        given = on_book(set_to(6, 3, [1] * 59), times(7, 6, 0), form(7))
        self.assertEqual(given[1:], [[0], [0, 3, 0] + [1, 0, 2] * 60])
        for place in (0, 5, 9):
            self.check_refused(times(place, 5, 0), -3)
            self.check_refused(times(place, 0, 5), -3)
            self.check_refused(times(place, 5, 5), -3)

    def test_half_twists(self):
        for row, twists in (([], 100), (HALF, None), ([-1, -2, -1], 99), (HALF * 2, None)):
            given = on_book(set_to(6, 3, row), times(7, 3, 6), form(7))
            self.assertEqual(given[1:], [[-3], [-4]] if twists is None else [[0], [0, 3, twists]])
        for row, twists in (([], -100), ([-1, -2, -1], None), (HALF, -99)):
            given = on_book(set_to(6, 3, row), times(7, 6, 4), form(7))
            self.assertEqual(given[1:], [[-3], [-4]] if twists is None else [[0], [0, 3, twists]])

    def test_half_twists_with_factors(self):
        self.assertEqual(on_book(times(6, 3, 5), form(6)), [[0], [0, 3, 100] + [1, 0, 2] * 60])
        self.assertEqual(on_book(times(6, 4, 5), form(6)), [[0], [0, 3, -100] + [1, 0, 2] * 60])
        self.assertEqual(on_book(set_to(6, 3, [-1]), times(0, 4, 6), form(0))[1:], [[-3], [0, 3, 0, 1, 0, 2]])

    def test_two_strands(self):
        self.assertEqual(on_book(set_to(6, 2, [-1]), times(6, 15, 6), form(6))[1:], [[-3], [0, 2, -1]])
        self.assertEqual(on_book(set_to(6, 2, [1] * 100), times(7, 6, 15), form(7))[1:], [[0], [0, 2, 0]])
        self.assertEqual(on_book(set_to(6, 2, [1] * 100), set_to(7, 2, [1]), times(7, 6, 7), form(7))[2:],
                         [[-3], [0, 2, 1]])

    def test_greatest_of_the_largest(self):
        given = on_book(times(6, 3, 5), times(7, 4, 5), greatest(8, 6, 7), greatest(9, 6, 6), greatest(10, 3, 4),
                        greatest(11, 5, 4), form(8), form(9), form(10), form(11))
        self.assertEqual(given[2:6], [[0]] * 4)
        self.assertEqual(given[6], [0, 3, -100] + [1, 0, 2] * 60)
        self.assertEqual(given[7], [0, 3, 100] + [1, 0, 2] * 60)
        self.assertEqual(given[8:], [[0, 3, -100], [0, 3, -100]])


class OfOne(Checks):
    """inverse, cycle and power."""

    MAKE = (inverse, lambda place, a: cycle(place, a, 0), lambda place, a: cycle(place, a, 1),
            lambda place, a: power(place, a, 2), lambda place, a: power(place, a, 0),
            lambda place, a: power(place, a, -8))

    def test_empty(self):
        for make, empty in itertools.product(self.MAKE, EMPTY):
            self.check_refused(make(0, empty), -4)
            self.check_refused(make(empty, empty), -4)
            self.check_refused(make(16, empty), -4)

    def test_place(self):
        for make, place in itertools.product(self.MAKE, NO_PLACES):
            self.check_refused(make(place, 0), -1)

    def test_inverse_too_large(self):
        for start, row, twists in ((3, [], -100), (3, [1], None), (4, [1] * 60, 40), (3, [-1], -100), (4, [], 100),
                                   (4, [1], 99)):
            given = on_book(set_to(6, 3, row), times(6, start, 6), inverse(7, 6), form(7))[1:]
            if twists is None:
                self.assertEqual(given, [[0], [-3], [-4]])
            else:
                self.assertEqual(given[:2], [[0], [0]])
                self.assertEqual(given[2][:3], [0, 3, twists])
        given = on_book(times(6, 3, 0), inverse(6, 6), form(6), inverse(16, 6), inverse(16, 7))
        self.assertEqual(given, [[0], [-3], [0, 3, 100, 1, 0, 2], [-1], [-4]])

    def test_inverse_of_sixty_factors(self):
        given = on_book(inverse(6, 5), form(6))
        self.assertEqual((given[0], given[1][2], len(read_form(given[1]).factors)), ([0], -60, 60))

    def test_cycle_too_large(self):
        # Cycled, 1 1 2 and 1 2 2 of three strands are half twists.
        for row, last in itertools.product(([1, 1, 2], [1, 2, 2]), (0, 1, MOST_WHOLE)):
            given = on_book(set_to(6, 3, row), times(7, 3, 6), cycle(0, 7, last), cycle(7, 7, last), form(0), form(7),
                            cycle(16, 7, last), cycle(16, 8, last))
            self.assertEqual(given[1:4], [[0], [-3], [-3]])
            self.assertEqual(given[4], [0, 3, 0, 1, 0, 2])
            self.assertEqual(given[5][:3], [0, 3, 100])
            self.assertEqual(given[6:], [[-1], [-4]])
            given = on_book(set_to(6, 3, row), times(7, 4, 6), cycle(7, 7, last), form(7))
            self.assertEqual(given[1:], [[0], [0], [0, 3, -99]])
            given = on_book(set_to(6, 3, row + [-1, -2, -1] * 2), times(7, 3, 6), cycle(7, 7, last), form(7))
            self.assertEqual(given[1:], [[0], [0], [0, 3, 99]])

    def test_cycle_of_the_largest(self):
        for last in (0, 1):
            given = on_book(times(6, 3, 5), cycle(6, 6, last), form(6))
            self.assertEqual(given[1:], [[0], [0, 3, 100] + [1, 0, 2] * 60])
            self.assertEqual(on_book(cycle(6, 3, last), form(6)), [[0], [0, 3, 100]])

    def test_power_s_exponent(self):
        for e in (-9, 9, -2147483648, 2147483647):
            self.check_refused(power(0, 0, e), -3)
            self.check_refused(power(0, 1, e), -3)
        for e in (-8, 8):
            self.check_done(power(0, 0, e))

    def test_power_what_is_named_first_counts(self):
        for e in (-9, 9, -2147483648, 2147483647):
            for empty in EMPTY:
                self.check_refused(power(0, empty, e), -4)
                self.check_refused(power(16, empty, e), -4)
            for place in NO_PLACES:
                self.check_refused(power(place, 0, e), -3)
                self.check_refused(power(place, 5, e), -3)
        for place in NO_PLACES:
            self.check_refused(power(place, 5, 8), -1)
            self.check_refused(power(place, 3, 2), -1)
            self.check_refused(power(place, 4, -2), -1)

    def test_power_too_large_by_factors(self):
        self.check_done(power(0, 5, 1))
        self.check_refused(power(0, 5, 2), -3)
        self.check_refused(power(5, 5, -2), -3)
        for row, e, factors in (([1] * 10, 6, 60), ([1] * 15, -4, 60), ([1] * 31, 2, None), ([1] * 8, 8, None),
                                ([1] * 8, -8, None), ([1] * 7, 8, 56), ([3] * 2 + [2] * 30, 2, None),
                                ([3] * 2 + [2] * 29, 2, 59)):
            given = on_book(set_to(0, 16, row), power(1, 0, e), form(1))[1:]
            if factors is None:
                self.assertEqual(given, [[-3], [0, 3, 0, 0, 2, 1, 0, 2, 1]])
            else:
                self.assertEqual((given[0], len(read_form(given[1]).factors)), ([0], factors))

    def test_power_too_large_by_half_twists(self):
        cases = ((50, [], 2, 100), (50, [1, 2], 2, None), (50, [], -2, -100), (51, [], 2, None), (51, [], -2, None),
                 (-50, [], 2, -100), (-51, [1, 2, 2, 1], 2, None), (-50, [1, 2, 2, 1], 2, -100), (12, [], 8, 96),
                 (13, [], 8, None), (13, [], -8, None), (-12, [], 8, -96), (25, [1], 4, None), (25, [], 4, 100))
        for twists, behind, e, wanted in cases:
            half = HALF if twists > 0 else [-1, -2, -1]
            calls = [set_to(6, 3, half * 25), set_to(7, 3, half * (abs(twists) % 25)), set_to(8, 3, behind)]
            calls = calls + [times(7, 7, 6)] * (abs(twists) // 25) + [times(8, 7, 8), form(8), power(9, 8, e), form(9)]
            given = on_book(*calls)
            self.assertEqual(given[-3][2], twists)
            if wanted is None:
                self.assertEqual(given[-2:], [[-3], [-4]])
            else:
                self.assertEqual((given[-2], given[-1][:3]), ([0], [0, 3, wanted]))


class Asking(Checks):
    def test_empty(self):
        for ask_one, empty in itertools.product((form, row_at, told), EMPTY):
            self.check_refused(ask_one(empty), -4)
        for ask_two, empty in itertools.product((order, starts), EMPTY):
            self.check_refused(ask_two(empty, 0), -4)
            self.check_refused(ask_two(0, empty), -4)
            self.check_refused(ask_two(empty, empty), -4)

    def test_starts_asks_for_the_same_strands(self):
        for a, b in ((0, 2), (2, 0), (15, 1), (3, 15)):
            self.check_refused(starts(a, b), -2)
        self.check_refused(starts(6, 2), -4)
        self.check_refused(starts(2, 16), -4)

    def test_order_does_not(self):
        self.assertEqual(on_book(order(0, 2), order(2, 0), order(15, 4)), [[0, -1], [0, 1], [0, -1]])

    def test_asking_changes_nothing(self):
        asked = [order(0, 1), order(0, 2), starts(0, 1), starts(4, 3), starts(1, 0), form(5), row_at(5), row_at(3),
                 told(3), told(15), row_at(15), form(0), order(5, 5), back(SAME), follow([1, 2, 3])]
        given = on_book(*asked, *WHOLE_BOOK)[len(asked):]
        self.assertEqual(given, on_book(*WHOLE_BOOK))
        given = on_book(*asked, *[told(place) for place in range(16)])[len(asked):]
        self.assertEqual(given, on_book(*[told(place) for place in range(16)]))

    def test_asked_twice_it_is_the_same(self):
        asked = [order(0, 1), starts(0, 1), form(5), row_at(1), told(3), order(2, 1)]
        given = on_book(*asked, *asked)
        self.assertEqual(given[:len(asked)], given[len(asked):])

    def test_only_the_place_that_is_named_changes(self):
        before = on_book(*WHOLE_BOOK)
        for make in (set_to(7, 3, [2]), times(7, 0, 1), inverse(7, 1), power(7, 1, 3), greatest(7, 0, 1),
                     cycle(7, 5, 0), cycle(7, 5, 1), states(7, 3, [1])):
            given = on_book(make, *WHOLE_BOOK)
            self.assertEqual(given[0][0], 0)
            self.assertNotEqual(given[8], [-4])
            self.assertEqual(given[1:8] + given[9:], before[:7] + before[8:])

    def test_places_that_came_from_one_another_stay_apart(self):
        given = line(set_to(0, 3, [1, 2]), power(1, 0, 1), cycle(2, 0, 0), inverse(3, 0), inverse(3, 3), times(0, 0, 0),
                     times(1, 1, 2), form(2), form(3))
        self.assertEqual(given[-2:], [[0, 3, 0, 2, 0, 1]] * 2)


if __name__ == "__main__":
    unittest.main()
