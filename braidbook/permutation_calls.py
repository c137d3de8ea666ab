"""The calls that ask of permutations alone; each gives the list of the numbers that are answered."""

from braidbook.lattice import join_of
from braidbook.lattice import meet_of
from braidbook.permutations import PLACES
from braidbook.permutations import begins
from braidbook.permutations import crossing_neighbours_sum
from braidbook.permutations import crossing_pairs_count
from braidbook.permutations import first_then
from braidbook.permutations import followed
from braidbook.permutations import is_right
from braidbook.permutations import is_strand_count
from braidbook.permutations import missing_to_half_twist
from braidbook.permutations import number_of
from braidbook.permutations import numbered
from braidbook.permutations import row_of
from braidbook.permutations import seen_from_behind
from braidbook.permutations import taken_back
from braidbook.refusals import DONE
from braidbook.refusals import LONGEST_ROW
from braidbook.refusals import NOT_RIGHT
from braidbook.refusals import TOO_LARGE


def all_right(call):
    return all([is_right(a, PLACES) for a in call.rows])


def right_for_told(call):
    return is_right(call.rows[0], call.numbers[0])


def answer_then(call):
    if not all_right(call):
        return [NOT_RIGHT]
    return [DONE] + first_then(call.rows[0], call.rows[1])


def answer_back(call):
    if not all_right(call):
        return [NOT_RIGHT]
    return [DONE] + taken_back(call.rows[0])


def answer_rest(call):
    if not right_for_told(call):
        return [NOT_RIGHT]
    return [DONE] + missing_to_half_twist(call.numbers[0], call.rows[0])


def answer_turned(call):
    if not right_for_told(call):
        return [NOT_RIGHT]
    return [DONE] + seen_from_behind(call.numbers[0], call.rows[0])


def answer_facts(call):
    if not all_right(call):
        return [NOT_RIGHT]
    a = call.rows[0]
    starting = crossing_neighbours_sum(a)
    ending = crossing_neighbours_sum(taken_back(a))
    return [DONE, crossing_pairs_count(a), starting, ending]


def answer_begins(call):
    if not all_right(call):
        return [NOT_RIGHT]
    return [1 if begins(call.rows[0], call.rows[1]) else 0]


def answer_meet(call):
    if not all_right(call):
        return [NOT_RIGHT]
    return [DONE] + meet_of(call.rows[0], call.rows[1])


def answer_join(call):
    if not all_right(call):
        return [NOT_RIGHT]
    return [DONE] + join_of(call.rows[0], call.rows[1])


def answer_number(call):
    if not right_for_told(call):
        return [NOT_RIGHT]
    return [DONE, number_of(call.numbers[0], call.rows[0])]


def answer_numbered(call):
    n = call.numbers[1]
    if not is_strand_count(n):
        return [NOT_RIGHT]
    return [DONE] + numbered(call.numbers[0], n)


def answer_word(call):
    if not all_right(call):
        return [NOT_RIGHT]
    return [DONE] + row_of(call.rows[0])


def answer_follow(call):
    row = call.rows[0]
    if len(row) > LONGEST_ROW:
        return [TOO_LARGE]
    return [DONE] + followed(row)


ANSWERS = {
    1: answer_then,
    2: answer_back,
    3: answer_rest,
    4: answer_turned,
    5: answer_facts,
    6: answer_begins,
    7: answer_meet,
    8: answer_join,
    9: answer_number,
    10: answer_numbered,
    11: answer_word,
    12: answer_follow,
}


def answer_permutation_call(call):
    answer = ANSWERS[call.number]
    return answer(call)
