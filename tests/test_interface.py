"""The layout of the list of calls and of the list given back, and that nothing is changed or kept."""

import contextlib
import io
import unittest

from braidbook.book import answers
from helper import (SAME, TWIST, WRONG_PERMUTATIONS, apart, ask, back, begins, facts, follow, join, meet, number,
                    numbered, rest, some_permutations, some_row, then, turned, word)

A, B = some_permutations(2, seed=3)

ONE_OF_EACH = [
    then(A, B), back(A), rest(16, A), turned(16, A), facts(A), begins(A, B), meet(A, B), join(A, B), number(16, A),
    numbered(12345, 9), word(A), follow(some_row(20, 4)),
]

REFUSED = [
    then(A, []), back(A[:15]), rest(17, A), turned(1, A), facts([0] * 16), begins([], B), meet(A, A + [16]),
    join(SAME[:15] + [4294967295], B), number(0, A), numbered(5, 17), word([]), follow([1] * 101),
]


class Untouched(list):
    """A list that can't be changed, not even for a while."""

    def refuse(self, *args, **kwargs):
        raise AssertionError("the list handed in was changed")

    __setitem__ = __delitem__ = __iadd__ = __imul__ = refuse
    append = extend = insert = pop = remove = clear = sort = reverse = refuse


def in_one(calls):
    return [whole for call in calls for whole in call]


class Layout(unittest.TestCase):
    def test_a_permutation_is_sixteen_numbers_behind_a_nought(self):
        self.assertEqual(answers(then(SAME, SAME)), [17, 0] + SAME)

    def test_a_refusal_is_its_number_alone(self):
        self.assertEqual(answers(back([])), [1, -1])
        self.assertEqual(answers(follow([0] * 101)), [1, -3])

    def test_begins_is_its_number_alone(self):
        self.assertEqual(answers(begins(SAME, TWIST)), [1, 1])
        self.assertEqual(answers(begins(TWIST, SAME)), [1, 0])

    def test_an_empty_row_is_no_number(self):
        self.assertEqual(answers(word(SAME)), [1, 0])

    def test_a_number_is_one_number_behind_a_nought(self):
        self.assertEqual(answers(number(16, SAME)), [2, 0, 0])

    def test_facts_are_three_numbers_behind_a_nought(self):
        self.assertEqual(answers(facts(SAME)), [4, 0, 0, 0, 0])

    def test_written_out(self):
        swap = [1, 0] + SAME[2:]
        given = answers([11, 16] + swap + [10, 1, 2, 6, 16] + swap + [16] + SAME + [12, 0])
        self.assertEqual(given, [2, 0, 1] + [17, 0] + swap + [1, 0] + [17, 0] + SAME)

    def test_whole_numbers_are_ints(self):
        given = answers(in_one(ONE_OF_EACH + REFUSED))
        self.assertIs(type(given), list)
        self.assertEqual({type(whole) for whole in given}, {int})


class SeveralCalls(unittest.TestCase):
    def test_each_is_answered_as_if_alone(self):
        for calls in (ONE_OF_EACH, ONE_OF_EACH[::-1], ONE_OF_EACH * 5):
            self.assertEqual(apart(answers(in_one(calls))), [ask(call) for call in calls])

    def test_refused_calls_change_nothing(self):
        mixed = []
        for call, refused in zip(ONE_OF_EACH, REFUSED):
            mixed.extend([refused, call, refused])
        parts = apart(answers(in_one(mixed)))
        self.assertEqual(parts[1::3], [ask(call) for call in ONE_OF_EACH])
        self.assertEqual(parts[0::3], [[-1]] * 11 + [[-3]])
        self.assertEqual(parts[2::3], parts[0::3])

    def test_a_wrong_permutation_is_passed_over_whole(self):
        for name, wrong in WRONG_PERMUTATIONS.items():
            with self.subTest(name):
                given = answers(then(wrong, wrong) + back(wrong) + rest(16, wrong) + number(2, SAME))
                self.assertEqual(given, [1, -1, 1, -1, 1, -1, 2, 0, 0])

    def test_two_thousand_numbers(self):
        self.assertEqual(answers(back([0] * 2000)), [1, -1])
        self.assertEqual(answers(follow([-1] * 2000)), [1, -3])
        self.assertEqual(answers(then([0] * 1000, [1] * 1000)), [1, -1])

    def test_sixty_calls(self):
        self.assertEqual(answers(numbered(0, 16) * 60), ([17, 0] + SAME) * 60)


class NothingChangedOrKept(unittest.TestCase):
    def test_the_same_list_twice(self):
        calls = in_one(ONE_OF_EACH + REFUSED)
        before = list(calls)
        once = answers(calls)
        self.assertEqual(calls, before)
        self.assertEqual(answers(calls), once)
        self.assertEqual(calls, before)

    def test_not_changed_for_a_while_either(self):
        calls = in_one(ONE_OF_EACH + REFUSED)
        self.assertEqual(answers(Untouched(calls)), answers(calls))

    def test_what_is_given_back_is_new(self):
        for call in ONE_OF_EACH:
            once = answers(call)
            kept = list(once)
            once.clear()
            self.assertEqual(answers(call), kept)

    def test_other_calls_between(self):
        kept = [answers(call) for call in ONE_OF_EACH]
        for call in reversed(ONE_OF_EACH + REFUSED):
            answers(call)
        self.assertEqual([answers(call) for call in ONE_OF_EACH], kept)

    def test_prints_nothing(self):
        out, err = io.StringIO(), io.StringIO()
        with contextlib.redirect_stdout(out), contextlib.redirect_stderr(err):
            answers(in_one(ONE_OF_EACH + REFUSED))
        self.assertEqual((out.getvalue(), err.getvalue()), ("", ""))


if __name__ == "__main__":
    unittest.main()
