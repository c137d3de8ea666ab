"""Permutations of sixteen places: number i says to which place the strand at place i comes."""

FEWEST_STRANDS = 2
PLACES = 16


def is_strand_count(n):
    return FEWEST_STRANDS <= n <= PLACES


def is_right(a, n):
    if not is_strand_count(n) or len(a) != PLACES:
        return False
    return sorted(a[:n]) == list(range(n)) and a[n:] == list(range(n, PLACES))


def first_then(a, b):
    return [b[place] for place in a]


def taken_back(a):
    back = list(range(PLACES))
    for i, place in enumerate(a):
        back[place] = i
    return back


def half_twist(n):
    return [n - 1 - i if i < n else i for i in range(PLACES)]


def missing_to_half_twist(n, a):
    return first_then(taken_back(a), half_twist(n))


def seen_from_behind(n, a):
    return [n - 1 - a[n - 1 - i] if i < n else i for i in range(PLACES)]


def crossing_pairs_count(a):
    total = 0
    for i, place in enumerate(a):
        total = total + len([later for later in a[i + 1:] if later < place])
    return total


def crossing_neighbours_sum(a):
    """The sum of 2^i for the i for which the strands from places i and i + 1 cross."""
    total = 0
    for i in range(PLACES - 2, -1, -1):
        total = 2 * total + (1 if a[i] > a[i + 1] else 0)
    return total


def begins(a, b):
    for i in range(PLACES):
        for j in range(i + 1, PLACES):
            if a[i] > a[j] and b[i] < b[j]:
                return False
    return True


def number_of(n, a):
    total = 0
    for i in range(n):
        smaller = [later for later in a[i + 1:n] if later < a[i]]
        total = total * (n - i) + len(smaller)
    return total


def numbered(number, n):
    # The digits come last place first; what is left above the n-th digit is a
    # multiple of n!, so dropping it is the modulo.
    digits = []
    left = number
    for base in range(1, n + 1):
        digits.append(left % base)
        left = left // base
    free = list(range(n))
    a = []
    for digit in reversed(digits):
        a.append(free.pop(digit))
    return a + list(range(n, PLACES))


def exchange(values, i):
    kept = values[i]
    values[i] = values[i + 1]
    values[i + 1] = kept


def row_of(a):
    now = list(a)
    row = []
    i = 0
    while i < PLACES - 1:
        if now[i] > now[i + 1]:
            exchange(now, i)
            row.append(i + 1)
            # Everything before place i was in order, so only the pair just
            # before it can have come out of order.
            i = max(i - 1, 0)
        else:
            i = i + 1
    return row


def followed(row):
    strands = list(range(PLACES))
    for crossing in row:
        i = abs(crossing)
        if 1 <= i < PLACES:
            exchange(strands, i - 1)
    return taken_back(strands)
