"""What is told of a braid, all of it by its form."""

from braidbook.permutations import PLACES
from braidbook.permutations import crossing_pairs_count
from braidbook.permutations import first_then
from braidbook.permutations import half_twist
from braidbook.permutations import row_of


def rank(braid):
    # Permutations have the order of their numbers when they are compared by
    # the first place that differs, as lists are.
    return [braid.n, braid.twists, len(braid.factors), braid.factors]


def compared(a, b):
    if rank(a) == rank(b):
        return 0
    return -1 if rank(a) < rank(b) else 1


def crossings_of_half_twist(n):
    return n * (n - 1) // 2


def crossings_of_factors(braid):
    return sum([crossing_pairs_count(factor) for factor in braid.factors])


def row_length(braid):
    return abs(braid.twists) * crossings_of_half_twist(braid.n) + crossings_of_factors(braid)


def row_of_form(braid):
    twist = row_of(half_twist(braid.n))
    if braid.twists < 0:
        twist = [-crossing for crossing in reversed(twist)]
    row = twist * abs(braid.twists)
    for factor in braid.factors:
        row.extend(row_of(factor))
    return row


def above_less_below(braid):
    return braid.twists * crossings_of_half_twist(braid.n) + crossings_of_factors(braid)


def places_reached(braid):
    reached = list(range(PLACES))
    if braid.twists % 2 == 1:
        reached = half_twist(braid.n)
    for factor in braid.factors:
        reached = first_then(reached, factor)
    return reached[:braid.n]


def loops_of(reached):
    walked = [False] * len(reached)
    loops = 0
    for start in range(len(reached)):
        if not walked[start]:
            loops = loops + 1
        place = start
        while not walked[place]:
            walked[place] = True
            place = reached[place]
    return loops
