"""Calls 13, 21 and 22: set, form and row; two rows mean one braid just if they lead to the same form (P1)."""

import itertools
import unittest

from helper import (SAME, all_braids, check_form, check_means, coordinates, form, forms_of, free_images, line, made,
                    moved_about, moves_of, plain_row, read_form, row_at, row_of_form, set_to, some_permutations,
                    some_row, total, twist)

COUNTS = (2, 3, 4, 5, 9, 15, 16)
SIGNS = {"above": (1,), "below": (-1,), "both": (-1, 1), "more above": (-1, 1, 1, 1)}


def form_of(n, row):
    return forms_of(n, [row])[0]


def rows_for_tests():
    for n, (name, signs), length in itertools.product(COUNTS, SIGNS.items(), (1, 2, 3, 10, 30, 60)):
        yield n, some_row(length, f"{n} {name} {length}", n, signs)


class TheMeasure(unittest.TestCase):
    """What the tests hold forms against must itself tell braids apart, and no more than that."""

    def test_coordinates_and_the_free_group_agree(self):
        for n, longest in ((2, 6), (3, 5), (4, 4), (5, 3)):
            images = {}
            for length in range(longest + 1):
                for row in itertools.product([c for c in range(1 - n, n) if c], repeat=length):
                    images.setdefault(coordinates(n, row), set()).add(free_images(n, row))
            self.assertTrue(all(len(same) == 1 for same in images.values()))
            self.assertEqual(len(set.union(*images.values())), len(images))

    def test_no_move_changes_the_coordinates(self):
        for n in (2, 3, 4, 16):
            for seed in range(10):
                row = some_row(12, seed, n, (-1, 1, 1))
                for moved in moves_of(n, row):
                    self.assertEqual(coordinates(n, moved), coordinates(n, row))


class Written(unittest.TestCase):
    def test_none(self):
        for n in range(2, 17):
            self.assertEqual(line(set_to(0, n, []), form(0), row_at(0)), [[0], [0, n, 0], [0]])

    def test_two_strands_have_half_twists_alone(self):
        for length in (1, 2, 3, 99, 100):
            self.assertEqual(form_of(2, [1] * length), [0, 2, length])
            self.assertEqual(form_of(2, [-1] * length), [0, 2, -length])

    def test_one_crossing(self):
        self.assertEqual(form_of(3, [1]), [0, 3, 0, 1, 0, 2])
        self.assertEqual(form_of(3, [2]), [0, 3, 0, 0, 2, 1])
        self.assertEqual(form_of(3, [-1]), [0, 3, -1, 2, 0, 1])
        self.assertEqual(form_of(3, [-2]), [0, 3, -1, 1, 2, 0])
        self.assertEqual(form_of(16, [15]), [0, 16, 0] + SAME[:14] + [15, 14])

    def test_one_factor_or_two(self):
        self.assertEqual(form_of(3, [1, 2]), [0, 3, 0, 2, 0, 1])
        self.assertEqual(form_of(3, [1, 1]), [0, 3, 0, 1, 0, 2, 1, 0, 2])
        self.assertEqual(form_of(4, [1, 3]), [0, 4, 0, 1, 0, 3, 2])
        self.assertEqual(form_of(4, [1, 1, 3]), [0, 4, 0, 1, 0, 3, 2, 1, 0, 2, 3])
        self.assertEqual(form_of(4, [3, 1, 1]), form_of(4, [1, 1, 3]))

    def test_half_twists(self):
        self.assertEqual(form_of(3, [1, 2, 1]), [0, 3, 1])
        self.assertEqual(form_of(3, [2, 1, 2]), [0, 3, 1])
        self.assertEqual(form_of(3, [-1, -2, -1]), [0, 3, -1])
        self.assertEqual(form_of(3, [1, 2, 1, 1, 2, 1]), [0, 3, 2])
        for n in range(2, 15):
            half = plain_row(twist(n))
            self.assertEqual(form_of(n, half), [0, n, 1])
            self.assertEqual(form_of(n, [-crossing for crossing in half]), [0, n, -1])

    def test_half_twists_stand_before_the_factors(self):
        self.assertEqual(form_of(3, [1, 1, 2, 1]), [0, 3, 1, 0, 2, 1])
        self.assertEqual(form_of(3, [1, 2, 1, 1]), [0, 3, 1, 1, 0, 2])

    def test_the_half_twist_of_sixteen(self):
        half = plain_row(twist(16))
        self.assertEqual(line(*made(0, 16, half), form(0))[-1], [0, 16, 1])

    def test_the_first_n_numbers_of_a_permutation(self):
        for n in (5, 11, 14):
            for a in some_permutations(10, n=n, seed=n):
                if a not in (SAME, twist(n)):
                    self.assertEqual(form_of(n, plain_row(a)), [0, n, 0] + a[:n])

    def test_a_row_counts_for_its_strands(self):
        for n in (3, 4, 15, 16):
            self.assertEqual(form_of(n, [1]), [0, n, 0, 1, 0] + SAME[2:n])
        self.assertEqual(form_of(4, [1, 2, 1]), [0, 4, 0, 2, 1, 0, 3])

    def test_a_place_that_is_set_again(self):
        given = line(set_to(3, 4, [1]), set_to(3, 3, [2, 2]), form(3), set_to(3, 3, []), form(3))
        self.assertEqual(given[2], [0, 3, 0, 0, 2, 1, 0, 2, 1])
        self.assertEqual(given[4], [0, 3, 0])

    def test_places_are_apart(self):
        rows = [some_row(5, seed, 5) for seed in range(16)]
        calls = [set_to(place, 5, row) for place, row in enumerate(rows)] + [form(place) for place in range(16)]
        self.assertEqual(line(*calls)[16:], forms_of(5, rows))


class OneForm(unittest.TestCase):
    def check_all_rows(self, n, longest):
        crossings = [c for c in range(1 - n, n) if c]
        rows = [list(row) for size in range(longest + 1) for row in itertools.product(crossings, repeat=size)]
        by_braid, by_form = {}, {}
        for row, found in zip(rows, forms_of(n, rows)):
            braid = free_images(n, row)
            self.assertEqual(by_braid.setdefault(braid, found), found, row)
            self.assertEqual(by_form.setdefault(tuple(found), braid), braid, row)
            check_form(read_form(found))

    def test_all_rows_of_two(self):
        self.check_all_rows(2, 8)

    def test_all_rows_of_three(self):
        self.check_all_rows(3, 5)

    def test_all_rows_of_four(self):
        self.check_all_rows(4, 4)

    def test_all_braids_of_five_have_their_own(self):
        rows = all_braids(5, 3)
        self.assertEqual(len({tuple(found) for found in forms_of(5, rows)}), len(rows))

    def test_one_move(self):
        for n in (2, 3, 4, 16):
            for seed, signs in enumerate(SIGNS.values()):
                row = some_row(8, f"one move {seed}", n, signs)
                moved = moves_of(n, row)
                self.assertEqual(forms_of(n, moved), [form_of(n, row)] * len(moved))

    def test_many_moves(self):
        for n in (2, 3, 4, 16):
            for seed in range(8):
                for signs in ((1,), (-1,), (-1, 1)):
                    row = some_row(14, f"many moves {seed}", n, signs)
                    moved = moved_about(n, row, 40, seed, 40)
                    self.assertEqual(form_of(n, moved), form_of(n, row))

    def test_rows_of_none(self):
        for n in (2, 3, 4, 16):
            for seed in range(10):
                self.assertEqual(form_of(n, moved_about(n, [], 40, seed, 40)), [0, n, 0])

    def test_a_half_twist_by_any_row(self):
        for n in (3, 4, 5):
            for seed in range(10):
                self.assertEqual(form_of(n, moved_about(n, plain_row(twist(n)), 60, seed, 40)), [0, n, 1])

    def test_braids_that_are_close(self):
        close = [([1, 2, -1], [2]), ([1, 1, 2, 2], [2, 2, 1, 1]), ([1, -2, 1, -2], [-2, 1, -2, 1]), ([1, 1], []),
                 ([1, 1, -2, -2], []), ([1, 2, -1, -2], [2, 1, -2, -1]), ([1], [-1]), ([1, 2], [1, -2])]
        for n in (3, 4, 16):
            for one, other in close:
                self.assertNotEqual(coordinates(n, one), coordinates(n, other))
                self.assertNotEqual(form_of(n, one), form_of(n, other))

    def test_neighbours_do_not_pass_one_another(self):
        for n in (3, 4, 16):
            for i in range(1, n - 1):
                self.assertNotEqual(form_of(n, [i, i + 1]), form_of(n, [i + 1, i]))

    def test_others_pass_one_another_with_any_sign(self):
        for i, j in ((1, 3), (1, 15), (4, 9), (13, 15)):
            for x, y in itertools.product((i, -i), (j, -j)):
                self.assertEqual(form_of(16, [x, y]), form_of(16, [y, x]))

    def test_every_form_is_one_and_means_its_row(self):
        for n, row in rows_for_tests():
            check_means(form_of(n, row), n, row)

    def test_a_hundred_numbers(self):
        for n, signs in itertools.product((9, 16), SIGNS.values()):
            row = some_row(100, f"a hundred {n}", n, signs)
            check_means(form_of(n, row), n, row)

    def test_a_long_row_of_little(self):
        self.assertEqual(form_of(16, [7, -7] * 50), [0, 16, 0])
        self.assertEqual(form_of(16, list(range(1, 16)) * 3 + list(range(-15, 0)) * 3), [0, 16, 0])
        self.assertEqual(form_of(3, [1] * 70 + [-1] * 30), form_of(3, [1] * 40))


class Row(unittest.TestCase):
    def test_written(self):
        given = line(set_to(0, 3, [-1]), row_at(0), set_to(0, 3, [2, 1, 2, 2]), row_at(0), set_to(0, 2, [-1, -1]),
                     row_at(0), set_to(0, 4, [3, 1]), row_at(0))
        self.assertEqual(given[1::2], [[0, -1, -2, -1, 1, 2], [0, 1, 2, 1, 2], [0, -1, -1], [0, 1, 3]])

    def test_by_the_words(self):
        for n, row in rows_for_tests():
            found, meant = line(set_to(0, n, row), form(0), row_at(0))[1:]
            self.assertEqual(meant, [0] + row_of_form(read_form(found)))

    def test_set_again_it_leads_to_the_same_form(self):
        for n, row in rows_for_tests():
            found, meant = line(set_to(0, n, row), form(0), row_at(0))[1:]
            if len(meant) <= 101:
                self.assertEqual(form_of(n, meant[1:]), found)
            elif len(meant) <= 2001:
                self.assertEqual(line(*made(1, n, meant[1:]), form(1))[-1], found)

    def test_a_row_of_a_row_is_itself(self):
        for n, row in rows_for_tests():
            if len(row) <= 10:
                meant = line(*made(0, n, row), row_at(0))[-1]
                self.assertEqual(line(*made(0, n, meant[1:]), row_at(0))[-1], meant)

    def test_above_less_below_stay(self):
        for n, row in rows_for_tests():
            meant = line(set_to(0, n, row), row_at(0))[1]
            if meant != [-3]:
                self.assertEqual(total(meant[1:]), total(row))


if __name__ == "__main__":
    unittest.main()
