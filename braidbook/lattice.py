"""The meet and the join of two permutations."""

from braidbook.permutations import PLACES
from braidbook.permutations import first_then
from braidbook.permutations import half_twist


def crossed_in_either(a, b):
    """For each pair of places i < j whether the strands from there cross in a or in b."""
    crossed = []
    for i in range(PLACES):
        crossed.append([i < j and (a[i] > a[j] or b[i] > b[j]) for j in range(PLACES)])
    return crossed


def close(crossed):
    # If strands i and j cross, and j and k, then i ends behind j and j behind k:
    # i and k must cross too. The later rows are closed first, so once is enough.
    for i in range(PLACES - 1, -1, -1):
        for j in range(i + 1, PLACES):
            if crossed[i][j]:
                add_crossings(crossed[i], crossed[j])


def add_crossings(crossed_with, more):
    for k in range(PLACES):
        if more[k]:
            crossed_with[k] = True


def place_reached(crossed, i):
    before = [j for j in range(i) if not crossed[j][i]]
    passed = [j for j in range(i + 1, PLACES) if crossed[i][j]]
    return len(before) + len(passed)


def join_of(a, b):
    crossed = crossed_in_either(a, b)
    close(crossed)
    return [place_reached(crossed, i) for i in range(PLACES)]


def meet_of(a, b):
    # Behind a half twist just those pairs cross that did not cross before, so
    # what begins and what is begun change sides.
    twist = half_twist(PLACES)
    return first_then(join_of(first_then(a, twist), first_then(b, twist)), twist)
