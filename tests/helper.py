"""What the tests share: calls written out, answers taken apart, and the document's words in their plainest form."""

import collections
import functools
import itertools
import random

from braidbook.book import answers

MOST_CALLS = 60
MOST_WHOLE = 4294967295
WRONG_COUNTS = (0, 1, 17, MOST_WHOLE)

SAME = list(range(16))
TWIST = list(range(15, -1, -1))

WRONG_PERMUTATIONS = {
    "empty": [],
    "one number": [0],
    "one too few": SAME[:15],
    "right for two, but only two numbers": [1, 0],
    "one too many": SAME + [16],
    "one too many, the last repeated": SAME + [15],
    "far too many": SAME * 10,
    "a number twice": [0, 0] + SAME[2:],
    "a number twice at the end": SAME[:15] + [14],
    "all nought": [0] * 16,
    "sixteen": SAME[:15] + [16],
    "counted from one": list(range(1, 17)),
    "the greatest whole number": SAME[:15] + [MOST_WHOLE],
    "the greatest whole number first": [MOST_WHOLE] + SAME[1:],
}


def rowed(row):
    return [len(row)] + list(row)


def then(a, b):
    return [1] + rowed(a) + rowed(b)


def back(a):
    return [2] + rowed(a)


def rest(n, a):
    return [3, n] + rowed(a)


def turned(n, a):
    return [4, n] + rowed(a)


def facts(a):
    return [5] + rowed(a)


def begins(a, b):
    return [6] + rowed(a) + rowed(b)


def meet(a, b):
    return [7] + rowed(a) + rowed(b)


def join(a, b):
    return [8] + rowed(a) + rowed(b)


def number(n, a):
    return [9, n] + rowed(a)


def numbered(i, n):
    return [10, i, n]


def word(a):
    return [11] + rowed(a)


def follow(row):
    return [12] + rowed(row)


def set_to(place, n, row):
    return [13, place, n] + rowed(row)


def times(place, a, b):
    return [14, place, a, b]


def inverse(place, a):
    return [15, place, a]


def power(place, a, e):
    return [16, place, a, e]


def greatest(place, a, b):
    return [17, place, a, b]


def cycle(place, a, last):
    return [18, place, a, last]


def order(a, b):
    return [19, a, b]


def starts(a, b):
    return [20, a, b]


def form(a):
    return [21, a]


def row_at(a):
    return [22, a]


def told(a):
    return [23, a]


def states(place, n, row):
    return [24, place, n] + rowed(row)


def apart(given):
    """The list given back, as one list for each call."""
    parts = []
    at = 0
    while at < len(given):
        size = given[at]
        part = given[at + 1:at + 1 + size]
        if size < 1 or len(part) != size:
            raise AssertionError(f"no count fits at {at} in {given}")
        parts.append(part)
        at += 1 + size
    return parts


def ask(call):
    parts = apart(answers(call))
    if len(parts) != 1:
        raise AssertionError(f"{len(parts)} answers to one call: {call}")
    return parts[0]


def line(*calls):
    """The answers to calls in one list, behind one another."""
    if not 1 <= len(calls) <= MOST_CALLS:
        raise AssertionError(f"{len(calls)} calls are no list")
    parts = apart(answers(list(itertools.chain.from_iterable(calls))))
    if len(parts) != len(calls):
        raise AssertionError(f"{len(parts)} answers to {len(calls)} calls")
    return parts


def made(place, n, row, spare=15):
    """Calls by which the place has the braid of a row of any length."""
    calls = [set_to(place, n, row[:100])]
    for start in range(100, len(row), 100):
        calls.extend([set_to(spare, n, row[start:start + 100]), times(place, place, spare)])
    return calls


def ask_all(calls):
    """The answers to calls that do not hang on one another, as many in a list as may be."""
    given = []
    for start in range(0, len(calls), MOST_CALLS):
        given.extend(line(*calls[start:start + MOST_CALLS]))
    return given


def forms_of(n, rows):
    """What form answers of the braid of each row."""
    given = []
    for start in range(0, len(rows), MOST_CALLS // 2):
        calls = []
        for row in rows[start:start + MOST_CALLS // 2]:
            calls.extend([set_to(0, n, row), form(0)])
        given.extend(line(*calls)[1::2])
    return given


def right_for(n):
    """All permutations right for n, by the first number that differs."""
    return [list(start) + SAME[n:] for start in itertools.permutations(range(n))]


def some_permutations(how_many, n=16, seed=1):
    source = random.Random(seed)
    found = []
    for _ in range(how_many):
        start = SAME[:n]
        source.shuffle(start)
        found.append(start + SAME[n:])
    return found


def some_row(length, seed, n=16, signs=(-1, 1)):
    source = random.Random(seed)
    return [source.choice(signs) * source.randint(1, n - 1) for _ in range(length)]


def pairs(a):
    """The pairs of starting places whose strands cross, one bit each."""
    mask = 0
    for bit, (i, j) in enumerate(itertools.combinations(range(16), 2)):
        if a[i] > a[j]:
            mask |= 1 << bit
    return mask


def all_in(some, more):
    return some & ~more == 0


def one_more_or_less(a, more):
    """The permutations with just one crossing more (or less) than a that it begins (or that begin it)."""
    found = []
    where = [a.index(place) for place in range(16)]
    for place in range(15):
        if (where[place] < where[place + 1]) == more:
            other = list(a)
            other[where[place]] = place + 1
            other[where[place + 1]] = place
            found.append(other)
    return found


def plain_row(a):
    """A permutation's row by the document's words, without a short cut."""
    a = list(a)
    row = []
    while True:
        falls = [i for i in range(15) if a[i] > a[i + 1]]
        if not falls:
            return row
        i = falls[0]
        row.append(i + 1)
        a[i], a[i + 1] = a[i + 1], a[i]


def plain_follow(row):
    """Where each strand comes, each followed by itself."""
    ends = []
    for place in range(16):
        for crossing in row:
            i = abs(crossing)
            if not 1 <= i <= 15:
                continue
            if place == i - 1:
                place = i
            elif place == i:
                place = i - 1
        ends.append(place)
    return ends


def backward(row):
    """The inverse row."""
    return [-crossing for crossing in reversed(row)]


def twist(n):
    return list(range(n - 1, -1, -1)) + SAME[n:]


Form = collections.namedtuple("Form", "n twists factors")


def read_form(answer):
    """What form answered, its factors as sixteen numbers each."""
    if len(answer) < 3 or answer[0] != 0:
        raise AssertionError(f"{answer} is no form")
    n = answer[1]
    if (len(answer) - 3) % n:
        raise AssertionError(f"{answer} has no whole factors")
    factors = [answer[at:at + n] + SAME[n:] for at in range(3, len(answer), n)]
    return Form(n, answer[2], factors)


def row_of_form(found):
    """The row that a form means, by the document's words."""
    half = plain_row(twist(found.n))
    start = half * found.twists if found.twists >= 0 else backward(half) * -found.twists
    return start + [crossing for factor in found.factors for crossing in plain_row(factor)]


def check_form(found):
    """What the document asks of a form's factors and of neighbours."""
    for factor in found.factors:
        if sorted(factor) != SAME or factor[found.n:] != SAME[found.n:]:
            raise AssertionError(f"{factor} is not right for {found.n}")
        if factor in (SAME, twist(found.n)):
            raise AssertionError(f"{factor} is no factor for {found.n}")
    for a, b in zip(found.factors, found.factors[1:]):
        for i in range(15):
            if b[i] > b[i + 1] and a.index(i) < a.index(i + 1):
                raise AssertionError(f"{a} and {b} may not be neighbours")


def above(x):
    return max(x, 0)


def below(x):
    return min(x, 0)


def crossed_coordinates(x, y, u, v, crossing):
    if crossing > 0:
        z = x - below(y) - u + above(v)
        return [x + above(y) + above(above(v) - z), v - above(z), u + below(v) + below(below(y) + z), y + above(z)]
    z = x + below(y) - u - above(v)
    return [x - above(y) - above(above(v) + z), v + below(z), u - below(v) - below(below(y) - z), y - below(z)]


def coordinates(n, row):
    """Dynnikov's coordinates: the same for two rows just if they mean the same braid."""
    now = [0, 1] * n
    for crossing in row:
        at = 2 * abs(crossing) - 2
        now[at:at + 4] = crossed_coordinates(*now[at:at + 4], crossing)
    return tuple(now)


def reduced(letters):
    kept = []
    for letter in letters:
        if kept and kept[-1] == -letter:
            kept.pop()
        else:
            kept.append(letter)
    return kept


def free_images(n, row):
    """What a row does to the letters of a free group (Artin): the same for two rows just if they mean one braid."""
    images = [[i] for i in range(1, n + 1)]
    for crossing in row:
        i = abs(crossing)
        a, b = images[i - 1], images[i]
        if crossing > 0:
            images[i - 1], images[i] = reduced(a + b + backward(a)), a
        else:
            images[i - 1], images[i] = b, reduced(backward(b) + a + b)
    return tuple(tuple(image) for image in images)


def check_means(answer, n, row):
    """That what form answered is the one form of the row's braid."""
    found = read_form(answer)
    check_form(found)
    if found.n != n:
        raise AssertionError(f"{found.n} strands, not {n}")
    if coordinates(n, row_of_form(found)) != coordinates(n, row):
        raise AssertionError(f"{answer} does not mean {row}")


def moves_of(n, row):
    """All rows that become of a row by one of the document's moves."""
    found = []
    for at in range(len(row) + 1):
        for i in range(1, n):
            found.append(row[:at] + [i, -i] + row[at:])
            found.append(row[:at] + [-i, i] + row[at:])
    for at in range(len(row) - 1):
        i, j = row[at:at + 2]
        if i == -j:
            found.append(row[:at] + row[at + 2:])
        if i > 0 and j > 0 and abs(i - j) >= 2:
            found.append(row[:at] + [j, i] + row[at + 2:])
    for at in range(len(row) - 2):
        i, j, k = row[at:at + 3]
        if i > 0 and j > 0 and i == k and abs(i - j) == 1:
            found.append(row[:at] + [j, i, j] + row[at + 3:])
    return found


def moved_about(n, row, steps, seed, longest=100):
    """A row of the same braid, by so many of the document's moves; shorter ones as likely as longer ones."""
    source = random.Random(seed)
    row = list(row)
    for _ in range(steps):
        longer, others = [], []
        for moved in moves_of(n, row):
            (longer if len(moved) > len(row) else others).append(moved)
        if len(row) + 2 > longest:
            longer = []
        kinds = [kind for kind in (longer, others) if kind]
        if kinds:
            row = source.choice(source.choice(kinds))
    return row


def total(row):
    """The crossings above 0 less those below."""
    return sum(1 if crossing > 0 else -1 for crossing in row)


@functools.lru_cache(maxsize=None)
def rows_above(n, length):
    """The braids of all rows of that length without numbers below 0, by their coordinates."""
    return frozenset(coordinates(n, row) for row in itertools.product(range(1, n), repeat=length))


def plainly_begins(n, a, b):
    """Whether the braid of row a begins that of row b, by going through all rows without numbers below 0."""
    between = backward(a) + b
    length = total(between)
    return length >= 0 and coordinates(n, between) in rows_above(n, length)


def all_braids(n, longest, crossings=None):
    """One row for each braid that has a row of at most that length."""
    crossings = crossings or [c for c in range(1 - n, n) if c]
    found = {}
    for length in range(longest + 1):
        for row in itertools.product(crossings, repeat=length):
            found.setdefault(coordinates(n, row), list(row))
    return list(found.values())
