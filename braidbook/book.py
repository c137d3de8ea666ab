"""The braid book: answers the calls of one list, one behind another."""

from braidbook.permutation_calls import answer_permutation_call
from braidbook.reader import Reader


def answers(calls):
    reader = Reader(calls)
    given = []
    while not reader.is_done():
        answer = answer_permutation_call(reader.take_call())
        given.append(len(answer))
        given.extend(answer)
    return given
