"""Call 24: states; the polynomial is the same for rows of one braid (P4), and the place has the braid then."""

import collections
import itertools
import unittest

from helper import MOST_WHOLE, ask, ask_all, form, forms_of, line, moved_about, moves_of, set_to, some_row, states, told

SIGNS = ((1,), (-1,), (-1, 1))


def joined_loops(n, row, choice):
    """How many loops a choice gives, by which points are joined; a point is (height, place)."""
    group = {(height, place): {(height, place)} for height in range(len(row) + 1) for place in range(n)}

    def join(one, other):
        both = group[one] | group[other]
        for point in both:
            group[point] = both

    for height, (crossing, is_bent) in enumerate(zip(row, choice)):
        pair = (abs(crossing) - 1, abs(crossing))
        for place in range(n):
            if place not in pair or not is_bent:
                join((height, place), (height + 1, place))
        if is_bent:
            join((height, pair[0]), (height, pair[1]))
            join((height + 1, pair[0]), (height + 1, pair[1]))
    for place in range(n):
        join((0, place), (len(row), place))
    return len({id(points) for points in group.values()})


def times_loop(polynomial):
    """Times -A^2 - A^-2."""
    found = collections.Counter()
    for exponent, number in polynomial.items():
        found[exponent + 2] -= number
        found[exponent - 2] -= number
    return found


def plain_polynomial(n, row):
    found = collections.Counter()
    for choice in itertools.product((False, True), repeat=len(row)):
        exponent = sum((1 if crossing > 0 else -1) * (-1 if is_bent else 1) for crossing, is_bent in zip(row, choice))
        worth = collections.Counter({exponent: 1})
        for _ in range(joined_loops(n, row, choice) - 1):
            worth = times_loop(worth)
        for power, number in worth.items():
            found[power] += number
    return {power: number for power, number in found.items() if number}


def polynomial(n, row):
    return as_polynomial(row, ask(states(0, n, row)))


def as_polynomial(row, answer):
    """The exponents whose number isn't 0, with that."""
    most = 3 * len(row) + 16
    if answer[0] != 0 or len(answer) != 2 + 2 * most:
        raise AssertionError(f"{answer} has not the exponents for {row}")
    return {exponent: number for exponent, number in zip(range(-most, most + 1), answer[1:]) if number}


class Written(unittest.TestCase):
    def test_one_crossing(self):
        self.assertEqual(ask(states(0, 2, [1])), [0] + [0] * 22 + [-1] + [0] * 16)
        self.assertEqual(ask(states(0, 2, [-1])), [0] + [0] * 16 + [-1] + [0] * 22)

    def test_none(self):
        self.assertEqual(ask(states(0, 2, [])), [0] + [0] * 14 + [-1, 0, 0, 0, -1] + [0] * 14)
        self.assertEqual(ask(states(15, 3, [])), [0] + [0] * 12 + [1, 0, 0, 0, 2, 0, 0, 0, 1] + [0] * 12)
        self.assertEqual(polynomial(6, []), {-10: -1, -6: -5, -2: -10, 2: -10, 6: -5, 10: -1})

    def test_known_ones(self):
        self.assertEqual(polynomial(2, [1, 1]), {4: -1, -4: -1})
        self.assertEqual(polynomial(2, [1, 1, 1]), {5: -1, -3: -1, -7: 1})
        self.assertEqual(polynomial(2, [-1, -1, -1]), {-5: -1, 3: -1, 7: 1})
        self.assertEqual(polynomial(3, [1, -2, 1, -2]), {8: 1, 4: -1, 0: 1, -4: -1, -8: 1})

    def test_how_many_exponents(self):
        for n in range(2, 7):
            for length in range(11):
                self.assertEqual(len(ask(states(0, n, [1] * length))), 1 + 2 * (3 * length + 16) + 1)


class ByTheWords(unittest.TestCase):
    def test_short_rows(self):
        for n, longest in ((2, 4), (3, 3), (4, 2), (6, 2)):
            crossings = [c for c in range(1 - n, n) if c]
            for length in range(longest + 1):
                rows = [list(row) for row in itertools.product(crossings, repeat=length)]
                for row, answer in zip(rows, ask_all([states(0, n, row) for row in rows])):
                    self.assertEqual(as_polynomial(row, answer), plain_polynomial(n, row), row)

    def test_longer_rows(self):
        for n, signs in itertools.product(range(2, 7), SIGNS):
            row = some_row(7, f"longer {n}", n, signs)
            self.assertEqual(polynomial(n, row), plain_polynomial(n, row), row)

    def test_ten_crossings(self):
        for n, signs in ((2, (1,)), (4, (-1, 1)), (6, (-1, 1))):
            row = some_row(10, f"ten {n}", n, signs)
            self.assertEqual(polynomial(n, row), plain_polynomial(n, row), row)

    def test_most_loops(self):
        for n in (2, 6):
            for crossing in (1, -1, n - 1, 1 - n):
                row = [crossing] * 10
                self.assertEqual(polynomial(n, row), plain_polynomial(n, row), row)


class OfOneBraid(unittest.TestCase):
    def test_one_move(self):
        for n in range(2, 7):
            for seed, signs in enumerate(SIGNS):
                row = some_row(6, f"one move {seed}", n, signs)
                wanted = polynomial(n, row)
                moved = moves_of(n, row)
                for other, answer in zip(moved, ask_all([states(0, n, other) for other in moved])):
                    self.assertEqual(as_polynomial(other, answer), wanted)

    def test_many_moves(self):
        for n in range(2, 7):
            for seed in range(12):
                row = some_row(6, f"many moves {seed}", n, SIGNS[seed % 3])
                moved = moved_about(n, row, 30, seed, 10)
                self.assertEqual(polynomial(n, moved), polynomial(n, row))

    def test_over_and_under_change_sides(self):
        for n in range(2, 7):
            row = some_row(7, f"sides {n}", n, (-1, 1))
            under = polynomial(n, [-crossing for crossing in row])
            self.assertEqual({-exponent: number for exponent, number in under.items()}, polynomial(n, row))

    def test_it_tells_braids_apart(self):
        self.assertNotEqual(polynomial(3, [1, 1, 1, 2]), polynomial(3, [-1, -1, -1, 2]))
        self.assertNotEqual(polynomial(2, [1]), polynomial(2, [-1]))


class ThePlace(unittest.TestCase):
    def test_it_has_the_braid(self):
        for n, signs, length in itertools.product(range(2, 7), SIGNS, (0, 1, 5, 10)):
            row = some_row(length, f"{n} {length}", n, signs)
            given = line(states(3, n, row), form(3), told(3), set_to(4, n, row), form(4), told(4))
            self.assertEqual(given[0][0], 0)
            self.assertEqual(given[1:3], given[4:6])
            self.assertEqual(given[1], forms_of(n, [row])[0])

    def test_what_was_there_goes(self):
        given = line(set_to(0, 9, [1, 8]), states(0, 3, [1, 2, 1]), form(0))
        self.assertEqual(given[2], [0, 3, 1])


class Refused(unittest.TestCase):
    def test_strands(self):
        for n in (0, 1, 7, 8, 16, 17, MOST_WHOLE):
            self.assertEqual(line(set_to(0, 3, [2]), states(0, n, []), states(0, n, [1]), form(0))[1:],
                             [[-1], [-1], [0, 3, 0, 0, 2, 1]])
        for n in (2, 6):
            self.assertEqual(ask(states(0, n, [1]))[0], 0)

    def test_length(self):
        for n in (2, 6):
            self.assertEqual(ask(states(0, n, [1, -1] * 5))[0], 0)
            self.assertEqual(ask(states(0, n, [1] * 11)), [-3])
            self.assertEqual(ask(states(0, n, [1, -1] * 6)), [-3])
            self.assertEqual(ask(states(0, n, [1] * 100)), [-3])
            self.assertEqual(ask(states(0, n, [1] * 2000)), [-3])

    def test_crossings(self):
        for n in range(2, 7):
            for wrong in (0, n, -n, 7, 2147483647, -2147483648):
                for row in ([wrong], [1, wrong], [wrong] + [1] * 9, [1] * 9 + [wrong]):
                    self.assertEqual(ask(states(0, n, row)), [-1])
            self.assertEqual(ask(states(0, n, [n - 1, 1 - n]))[0], 0)

    def test_place(self):
        self.assertEqual(ask(states(15, 3, [1]))[0], 0)
        for place in (16, 17, MOST_WHOLE):
            self.assertEqual(ask(states(place, 3, [1])), [-1])

    def test_what_is_named_first_counts(self):
        self.assertEqual(ask(states(0, 7, [1] * 11)), [-1])
        self.assertEqual(ask(states(16, 1, [0] * 11)), [-1])
        self.assertEqual(ask(states(0, 3, [1] * 10 + [3])), [-3])
        self.assertEqual(ask(states(0, 3, [0] * 11)), [-3])
        self.assertEqual(ask(states(16, 3, [1] * 11)), [-3])
        self.assertEqual(ask(states(16, 6, [6] * 11)), [-3])
        self.assertEqual(ask(states(16, 3, [3])), [-1])

    def test_the_place_has_what_it_had(self):
        kept = [set_to(0, 4, [1, 2, 3]), set_to(1, 2, [1])]
        refused = [states(0, 7, []), states(0, 3, [1] * 11), states(0, 3, [3]), states(16, 3, [1]), states(1, 1, [])]
        given = line(*kept, *refused, form(0), form(1), form(2))
        self.assertEqual(given[2:7], [[-1], [-3], [-1], [-1], [-1]])
        self.assertEqual(given[7:], line(*kept, form(0), form(1), form(2))[2:])


if __name__ == "__main__":
    unittest.main()
