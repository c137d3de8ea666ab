"""The layout of the list of calls and of the list given back, and that nothing is changed or kept."""

import contextlib
import io
import unittest

from braidbook.book import answers
from helper import (SAME, TWIST, WRONG_PERMUTATIONS, apart, ask, back, begins, cycle, facts, follow, form, greatest,
                    inverse, join, line, meet, number, numbered, order, power, rest, row_at, set_to, some_permutations,
                    some_row, starts, states, then, times, told, turned, word)

A, B = some_permutations(2, seed=3)

ONE_OF_EACH = [
    then(A, B), back(A), rest(16, A), turned(16, A), facts(A), begins(A, B), meet(A, B), join(A, B), number(16, A),
    numbered(12345, 9), word(A), follow(some_row(20, 4)),
]

REFUSED = [
    then(A, []), back(A[:15]), rest(17, A), turned(1, A), facts([0] * 16), begins([], B), meet(A, A + [16]),
    join(SAME[:15] + [4294967295], B), number(0, A), numbered(5, 17), word([]), follow([1] * 101),
]

ON_THE_BOOK = [
    set_to(0, 5, some_row(20, 5, 5)), set_to(15, 5, some_row(9, 6, 5)), times(2, 0, 15), inverse(3, 2),
    power(4, 15, -3), greatest(5, 0, 15), cycle(6, 0, 0), cycle(7, 2, 1), order(0, 2), starts(5, 0), form(4),
    row_at(7), told(2), states(8, 4, [1, -2, 3, 3]), form(8), form(6), form(5),
]

REFUSED_ON_THE_BOOK = [
    set_to(0, 17, []), set_to(0, 5, [5]), set_to(0, 5, [1] * 101), times(0, 0, 14), inverse(16, 0), power(0, 0, 9),
    greatest(0, 13, 0), cycle(16, 0, 0), order(0, 14), starts(14, 0), form(14), row_at(14), told(4294967295),
    states(0, 7, [1]), set_to(16, 5, [1]), set_to(0, 5, [1] * 61), states(0, 5, [0]),
]

EVERYTHING = ONE_OF_EACH + REFUSED + ON_THE_BOOK + [form(0)]


class Untouched(list):
    """A list that can't be changed, not even for a while."""

    def refuse(self, *args, **kwargs):
        raise AssertionError("the list handed in was changed")

    __setitem__ = __delitem__ = __iadd__ = __imul__ = refuse
    append = extend = insert = pop = remove = clear = sort = reverse = refuse


def in_one(calls):
    return [whole for call in calls for whole in call]


class Layout(unittest.TestCase):
    def test_a_permutation_is_sixteen_numbers_behind_a_nought(self):
        self.assertEqual(answers(then(SAME, SAME)), [17, 0] + SAME)

    def test_a_refusal_is_its_number_alone(self):
        self.assertEqual(answers(back([])), [1, -1])
        self.assertEqual(answers(follow([0] * 101)), [1, -3])

    def test_begins_is_its_number_alone(self):
        self.assertEqual(answers(begins(SAME, TWIST)), [1, 1])
        self.assertEqual(answers(begins(TWIST, SAME)), [1, 0])

    def test_an_empty_row_is_no_number(self):
        self.assertEqual(answers(word(SAME)), [1, 0])

    def test_a_number_is_one_number_behind_a_nought(self):
        self.assertEqual(answers(number(16, SAME)), [2, 0, 0])

    def test_facts_are_three_numbers_behind_a_nought(self):
        self.assertEqual(answers(facts(SAME)), [4, 0, 0, 0, 0])

    def test_written_out(self):
        swap = [1, 0] + SAME[2:]
        given = answers([11, 16] + swap + [10, 1, 2, 6, 16] + swap + [16] + SAME + [12, 0])
        self.assertEqual(given, [2, 0, 1] + [17, 0] + swap + [1, 0] + [17, 0] + SAME)

    def test_braids_written_out(self):
        self.assertEqual(answers([13, 0, 3, 2, 1, -2, 21, 0]), [1, 0, 9, 0, 3, -1, 0, 2, 1, 1, 2, 0])
        self.assertEqual(answers([13, 4, 2, 0, 22, 4, 21, 4, 23, 4]), [1, 0, 1, 0, 3, 0, 2, 0, 5, 0, 0, 2, 0, 1])
        self.assertEqual(answers([13, 9, 3, 1, 1, 14, 9, 9, 9, 22, 9]), [1, 0, 1, 0, 3, 0, 1, 1])
        self.assertEqual(answers([13, 1, 2, 1, 1, 15, 2, 1, 21, 2]), [1, 0, 1, 0, 3, 0, 2, -1])
        self.assertEqual(answers([13, 1, 2, 1, 1, 16, 2, 1, -3, 21, 2]), [1, 0, 1, 0, 3, 0, 2, -3])
        self.assertEqual(answers([13, 1, 2, 1, 1, 13, 2, 2, 0, 17, 3, 2, 1, 21, 3]), [1, 0, 1, 0, 1, 0, 3, 0, 2, 0])
        self.assertEqual(answers([13, 1, 3, 3, 1, 1, 2, 18, 2, 1, 0, 21, 2]), [1, 0, 1, 0, 3, 0, 3, 1])
        self.assertEqual(answers([13, 1, 2, 1, 1, 13, 2, 2, 0, 19, 1, 2, 19, 2, 1, 19, 2, 2]),
                         [1, 0, 1, 0, 2, 0, 1, 2, 0, -1, 2, 0, 0])
        self.assertEqual(answers([13, 1, 2, 1, 1, 13, 2, 2, 0, 20, 1, 2, 20, 2, 1]), [1, 0, 1, 0, 1, 0, 1, 1])
        self.assertEqual(answers([24, 0, 2, 0, 21, 0]),
                         [34, 0] + [0] * 14 + [-1, 0, 0, 0, -1] + [0] * 14 + [3, 0, 2, 0])

    def test_a_refusal_on_the_book_is_its_number_alone(self):
        self.assertEqual(answers([21, 0, 14, 0, 0, 0, 13, 0, 1, 0, 13, 0, 3, 101] + [1] * 101 + [20, 0, 0]),
                         [1, -4, 1, -4, 1, -1, 1, -3, 1, -4])

    def test_whole_numbers_are_ints(self):
        given = answers(in_one(EVERYTHING))
        self.assertIs(type(given), list)
        self.assertEqual({type(whole) for whole in given}, {int})


class SeveralCalls(unittest.TestCase):
    def test_each_is_answered_as_if_alone(self):
        for calls in (ONE_OF_EACH, ONE_OF_EACH[::-1], ONE_OF_EACH * 5):
            self.assertEqual(apart(answers(in_one(calls))), [ask(call) for call in calls])

    def test_refused_calls_change_nothing(self):
        mixed = []
        for call, refused in zip(ONE_OF_EACH, REFUSED):
            mixed.extend([refused, call, refused])
        parts = apart(answers(in_one(mixed)))
        self.assertEqual(parts[1::3], [ask(call) for call in ONE_OF_EACH])
        self.assertEqual(parts[0::3], [[-1]] * 11 + [[-3]])
        self.assertEqual(parts[2::3], parts[0::3])

    def test_a_wrong_permutation_is_passed_over_whole(self):
        for name, wrong in WRONG_PERMUTATIONS.items():
            with self.subTest(name):
                given = answers(then(wrong, wrong) + back(wrong) + rest(16, wrong) + number(2, SAME))
                self.assertEqual(given, [1, -1, 1, -1, 1, -1, 2, 0, 0])

    def test_permutations_and_braids_in_one_list(self):
        alone = [ask(call) for call in ONE_OF_EACH]
        on_the_book = line(*ON_THE_BOOK)
        self.assertEqual(line(*ONE_OF_EACH, *ON_THE_BOOK), alone + on_the_book)
        self.assertEqual(line(*ON_THE_BOOK, *ONE_OF_EACH), on_the_book + alone)
        turns = [call for both in zip(ON_THE_BOOK, ONE_OF_EACH) for call in both]
        given = line(*turns, *ON_THE_BOOK[len(ONE_OF_EACH):])
        self.assertEqual(given[1:len(turns):2], alone)
        self.assertEqual(given[0:len(turns):2] + given[len(turns):], on_the_book)

    def test_refused_calls_on_the_book_change_nothing(self):
        on_the_book = line(*ON_THE_BOOK)
        self.assertEqual(line(*ON_THE_BOOK, *REFUSED_ON_THE_BOOK, *ON_THE_BOOK[-3:])[-3:], on_the_book[-3:])
        calls = [call for both in zip(REFUSED_ON_THE_BOOK, ON_THE_BOOK) for call in both]
        given = line(*calls)
        self.assertEqual(given[1::2], on_the_book)
        self.assertTrue(all(len(answer) == 1 and answer[0] < 0 for answer in given[0::2]))

    def test_two_thousand_numbers(self):
        self.assertEqual(answers(back([0] * 2000)), [1, -1])
        self.assertEqual(answers(follow([-1] * 2000)), [1, -3])
        self.assertEqual(answers(then([0] * 1000, [1] * 1000)), [1, -1])

    def test_sixty_calls(self):
        self.assertEqual(answers(numbered(0, 16) * 60), ([17, 0] + SAME) * 60)


class NothingChangedOrKept(unittest.TestCase):
    def test_the_book_is_empty_each_time(self):
        answers(in_one(ON_THE_BOOK))
        self.assertEqual(line(*[form(place) for place in range(16)]), [[-4]] * 16)
        self.assertEqual(line(told(0), *ON_THE_BOOK)[0], [-4])

    def test_the_same_list_twice(self):
        calls = in_one(EVERYTHING)
        before = list(calls)
        once = answers(calls)
        self.assertEqual(calls, before)
        self.assertEqual(answers(calls), once)
        self.assertEqual(calls, before)

    def test_not_changed_for_a_while_either(self):
        calls = in_one(EVERYTHING)
        self.assertEqual(answers(Untouched(calls)), answers(calls))

    def test_what_is_given_back_is_new(self):
        for call in ONE_OF_EACH:
            once = answers(call)
            kept = list(once)
            once.clear()
            self.assertEqual(answers(call), kept)
        once = answers(in_one(ON_THE_BOOK))
        kept = list(once)
        once.clear()
        self.assertEqual(answers(in_one(ON_THE_BOOK)), kept)

    def test_other_calls_between(self):
        kept = [answers(call) for call in ONE_OF_EACH]
        for call in reversed(ONE_OF_EACH + REFUSED):
            answers(call)
        self.assertEqual([answers(call) for call in ONE_OF_EACH], kept)

    def test_prints_nothing(self):
        out, err = io.StringIO(), io.StringIO()
        with contextlib.redirect_stdout(out), contextlib.redirect_stderr(err):
            answers(in_one(EVERYTHING))
        self.assertEqual((out.getvalue(), err.getvalue()), ("", ""))


if __name__ == "__main__":
    unittest.main()
