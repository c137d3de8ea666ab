"""The braid book: answers the calls of one list, one behind another."""

from braidbook.braid_calls import Book
from braidbook.braid_calls import answer_braid_call
from braidbook.permutation_calls import answer_permutation_call
from braidbook.reader import Reader

FIRST_BRAID_CALL = 13


def answer_to(book, call):
    if call.number < FIRST_BRAID_CALL:
        return answer_permutation_call(call)
    return answer_braid_call(book, call)


def answers(calls):
    reader = Reader(calls)
    book = Book()
    given = []
    while not reader.is_done():
        answer = answer_to(book, reader.take_call())
        given.append(len(answer))
        given.extend(answer)
    return given
