"""What the tests share: calls written out, answers taken apart, and the document's words in their plainest form."""

import itertools
import random

from braidbook.book import answers

MOST_CALLS = 60
MOST_WHOLE = 4294967295
WRONG_COUNTS = (0, 1, 17, MOST_WHOLE)

SAME = list(range(16))
TWIST = list(range(15, -1, -1))

WRONG_PERMUTATIONS = {
    "empty": [],
    "one number": [0],
    "one too few": SAME[:15],
    "right for two, but only two numbers": [1, 0],
    "one too many": SAME + [16],
    "one too many, the last repeated": SAME + [15],
    "far too many": SAME * 10,
    "a number twice": [0, 0] + SAME[2:],
    "a number twice at the end": SAME[:15] + [14],
    "all nought": [0] * 16,
    "sixteen": SAME[:15] + [16],
    "counted from one": list(range(1, 17)),
    "the greatest whole number": SAME[:15] + [MOST_WHOLE],
    "the greatest whole number first": [MOST_WHOLE] + SAME[1:],
}


def rowed(row):
    return [len(row)] + list(row)


def then(a, b):
    return [1] + rowed(a) + rowed(b)


def back(a):
    return [2] + rowed(a)


def rest(n, a):
    return [3, n] + rowed(a)


def turned(n, a):
    return [4, n] + rowed(a)


def facts(a):
    return [5] + rowed(a)


def begins(a, b):
    return [6] + rowed(a) + rowed(b)


def meet(a, b):
    return [7] + rowed(a) + rowed(b)


def join(a, b):
    return [8] + rowed(a) + rowed(b)


def number(n, a):
    return [9, n] + rowed(a)


def numbered(i, n):
    return [10, i, n]


def word(a):
    return [11] + rowed(a)


def follow(row):
    return [12] + rowed(row)


def apart(given):
    """The list given back, as one list for each call."""
    parts = []
    at = 0
    while at < len(given):
        size = given[at]
        part = given[at + 1:at + 1 + size]
        if size < 1 or len(part) != size:
            raise AssertionError(f"no count fits at {at} in {given}")
        parts.append(part)
        at += 1 + size
    return parts


def ask(call):
    parts = apart(answers(call))
    if len(parts) != 1:
        raise AssertionError(f"{len(parts)} answers to one call: {call}")
    return parts[0]


def ask_all(calls):
    """The answers to calls that do not hang on one another, as many in a list as may be."""
    given = []
    for start in range(0, len(calls), MOST_CALLS):
        batch = calls[start:start + MOST_CALLS]
        given.extend(apart(answers(list(itertools.chain.from_iterable(batch)))))
    if len(given) != len(calls):
        raise AssertionError(f"{len(given)} answers to {len(calls)} calls")
    return given


def right_for(n):
    """All permutations right for n, by the first number that differs."""
    return [list(start) + SAME[n:] for start in itertools.permutations(range(n))]


def some_permutations(how_many, n=16, seed=1):
    source = random.Random(seed)
    found = []
    for _ in range(how_many):
        start = SAME[:n]
        source.shuffle(start)
        found.append(start + SAME[n:])
    return found


def some_row(length, seed):
    source = random.Random(seed)
    return [source.choice((-1, 1)) * source.randint(1, 15) for _ in range(length)]


def pairs(a):
    """The pairs of starting places whose strands cross, one bit each."""
    mask = 0
    for bit, (i, j) in enumerate(itertools.combinations(range(16), 2)):
        if a[i] > a[j]:
            mask |= 1 << bit
    return mask


def all_in(some, more):
    return some & ~more == 0


def one_more_or_less(a, more):
    """The permutations with just one crossing more (or less) than a that it begins (or that begin it)."""
    found = []
    where = [a.index(place) for place in range(16)]
    for place in range(15):
        if (where[place] < where[place + 1]) == more:
            other = list(a)
            other[where[place]] = place + 1
            other[where[place + 1]] = place
            found.append(other)
    return found


def plain_row(a):
    """A permutation's row by the document's words, without a short cut."""
    a = list(a)
    row = []
    while True:
        falls = [i for i in range(15) if a[i] > a[i + 1]]
        if not falls:
            return row
        i = falls[0]
        row.append(i + 1)
        a[i], a[i + 1] = a[i + 1], a[i]


def plain_follow(row):
    """Where each strand comes, each followed by itself."""
    ends = []
    for place in range(16):
        for crossing in row:
            i = abs(crossing)
            if not 1 <= i <= 15:
                continue
            if place == i - 1:
                place = i
            elif place == i:
                place = i - 1
        ends.append(place)
    return ends
