"""The calls on a book's braids; each gives the list of the numbers that are answered."""

from braidbook.beginnings import braid_begins
from braidbook.beginnings import greatest_beginning
from braidbook.braids import braid_of_row
from braidbook.braids import cycled_by_first
from braidbook.braids import cycled_by_last
from braidbook.braids import inverse_of
from braidbook.braids import is_too_large
from braidbook.braids import power_of
from braidbook.braids import product_of
from braidbook.permutations import is_strand_count
from braidbook.polynomial import polynomial_of
from braidbook.refusals import DONE
from braidbook.refusals import EMPTY
from braidbook.refusals import LONGEST_ROW
from braidbook.refusals import NOT_RIGHT
from braidbook.refusals import OTHER_STRANDS
from braidbook.refusals import TOO_LARGE
from braidbook.telling import above_less_below
from braidbook.telling import compared
from braidbook.telling import loops_of
from braidbook.telling import places_reached
from braidbook.telling import row_length
from braidbook.telling import row_of_form

BOOK_PLACES = 16
GREATEST_EXPONENT = 8
LONGEST_ROW_TOLD = 5000
MOST_STRANDS_OF_STATES = 6
LONGEST_ROW_OF_STATES = 10


class Book:
    def __init__(self):
        self.braids = [None] * BOOK_PLACES

    def has_place(self, place):
        return place < BOOK_PLACES

    def braid_at(self, place):
        return self.braids[place] if self.has_place(place) else None

    def put(self, place, braid):
        if not self.has_place(place):
            return NOT_RIGHT
        if is_too_large(braid):
            return TOO_LARGE
        self.braids[place] = braid
        return DONE


def are_crossings(n, row):
    return all([1 <= abs(crossing) < n for crossing in row])


def refusal_of_row(n, row, longest):
    if not is_strand_count(n):
        return NOT_RIGHT
    if len(row) > longest:
        return TOO_LARGE
    return DONE if are_crossings(n, row) else NOT_RIGHT


def refusal_of_two(a, b):
    if a is None or b is None:
        return EMPTY
    return DONE if a.n == b.n else OTHER_STRANDS


def answer_set(book, call):
    n = call.numbers[1]
    row = call.rows[0]
    refusal = refusal_of_row(n, row, LONGEST_ROW)
    if refusal != DONE:
        return [refusal]
    return [book.put(call.numbers[0], braid_of_row(n, row))]


def answer_times(book, call):
    a = book.braid_at(call.numbers[1])
    b = book.braid_at(call.numbers[2])
    refusal = refusal_of_two(a, b)
    if refusal != DONE:
        return [refusal]
    return [book.put(call.numbers[0], product_of(a, b))]


def answer_inverse(book, call):
    a = book.braid_at(call.numbers[1])
    if a is None:
        return [EMPTY]
    return [book.put(call.numbers[0], inverse_of(a))]


def answer_power(book, call):
    a = book.braid_at(call.numbers[1])
    exponent = call.numbers[2]
    if a is None:
        return [EMPTY]
    if abs(exponent) > GREATEST_EXPONENT:
        return [TOO_LARGE]
    return [book.put(call.numbers[0], power_of(a, exponent))]


def answer_greatest(book, call):
    a = book.braid_at(call.numbers[1])
    b = book.braid_at(call.numbers[2])
    refusal = refusal_of_two(a, b)
    if refusal != DONE:
        return [refusal]
    return [book.put(call.numbers[0], greatest_beginning(a, b))]


def answer_cycle(book, call):
    a = book.braid_at(call.numbers[1])
    if a is None:
        return [EMPTY]
    cycled = cycled_by_first(a) if call.numbers[2] == 0 else cycled_by_last(a)
    return [book.put(call.numbers[0], cycled)]


def answer_order(book, call):
    a = book.braid_at(call.numbers[0])
    b = book.braid_at(call.numbers[1])
    if a is None or b is None:
        return [EMPTY]
    return [DONE, compared(a, b)]


def answer_starts(book, call):
    a = book.braid_at(call.numbers[0])
    b = book.braid_at(call.numbers[1])
    refusal = refusal_of_two(a, b)
    if refusal != DONE:
        return [refusal]
    return [1 if braid_begins(a, b) else 0]


def answer_form(book, call):
    a = book.braid_at(call.numbers[0])
    if a is None:
        return [EMPTY]
    answer = [DONE, a.n, a.twists]
    for factor in a.factors:
        answer.extend(factor[:a.n])
    return answer


def answer_row(book, call):
    a = book.braid_at(call.numbers[0])
    if a is None:
        return [EMPTY]
    if row_length(a) > LONGEST_ROW_TOLD:
        return [TOO_LARGE]
    return [DONE] + row_of_form(a)


def answer_told(book, call):
    a = book.braid_at(call.numbers[0])
    if a is None:
        return [EMPTY]
    reached = places_reached(a)
    return [DONE, above_less_below(a), loops_of(reached)] + reached


def answer_states(book, call):
    n = call.numbers[1]
    row = call.rows[0]
    if n > MOST_STRANDS_OF_STATES:
        return [NOT_RIGHT]
    refusal = refusal_of_row(n, row, LONGEST_ROW_OF_STATES)
    if refusal != DONE:
        return [refusal]
    refusal = book.put(call.numbers[0], braid_of_row(n, row))
    if refusal != DONE:
        return [refusal]
    return [DONE] + polynomial_of(n, row)


BRAID_ANSWERS = {
    13: answer_set,
    14: answer_times,
    15: answer_inverse,
    16: answer_power,
    17: answer_greatest,
    18: answer_cycle,
    19: answer_order,
    20: answer_starts,
    21: answer_form,
    22: answer_row,
    23: answer_told,
    24: answer_states,
}


def answer_braid_call(book, call):
    answer = BRAID_ANSWERS[call.number]
    return answer(book, call)
