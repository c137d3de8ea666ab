"""Braids, each kept as its one form, and those that are made of others."""

from braidbook.factors import take_in
from braidbook.factors import turned_by
from braidbook.permutations import PLACES
from braidbook.permutations import exchange
from braidbook.permutations import missing_to_half_twist

MOST_FACTORS = 60
MOST_TWISTS = 100


# So many half twists and then the factors. Places may share a braid, so it is
# not changed once it is made.
class Braid:
    def __init__(self, n, twists, factors):
        self.n = n
        self.twists = twists
        self.factors = factors


def is_too_large(braid):
    return len(braid.factors) > MOST_FACTORS or abs(braid.twists) > MOST_TWISTS


def product_of(a, b):
    twists = a.twists + b.twists
    factors = [turned_by(a.n, factor, b.twists) for factor in a.factors]
    for factor in b.factors:
        twists = twists + take_in(a.n, factors, factor)
    return Braid(a.n, twists, factors)


def inverse_of(a):
    # A factor's inverse is what's missing after it, and a half twist taken
    # back behind that; each half twist on its way forward turns what it passes.
    passing = a.twists + len(a.factors)
    twists = -passing
    factors = []
    for factor in reversed(a.factors):
        factors.append(turned_by(a.n, missing_to_half_twist(a.n, factor), passing))
        passing = passing - 1
    return Braid(a.n, twists, factors)


def power_of(a, exponent):
    base = a if exponent >= 0 else inverse_of(a)
    power = Braid(a.n, 0, [])
    for step in range(abs(exponent)):
        power = product_of(power, base)
    return power


def braid_of_factor(n, factor):
    factors = []
    twists = take_in(n, factors, factor)
    return Braid(n, twists, factors)


def braid_of_crossing(n, crossing):
    factor = list(range(PLACES))
    exchange(factor, abs(crossing) - 1)
    braid = braid_of_factor(n, factor)
    return braid if crossing > 0 else inverse_of(braid)


def braid_of_row(n, row):
    braid = Braid(n, 0, [])
    for crossing in row:
        braid = product_of(braid, braid_of_crossing(n, crossing))
    return braid


def cycled_by_first(a):
    if len(a.factors) == 0:
        return a
    # So turned, the first factor stands before the half twists: taken away
    # there, it comes behind the others.
    first = turned_by(a.n, a.factors[0], a.twists)
    behind_first = Braid(a.n, a.twists, a.factors[1:])
    return product_of(behind_first, braid_of_factor(a.n, first))


def cycled_by_last(a):
    if len(a.factors) == 0:
        return a
    before_last = Braid(a.n, a.twists, a.factors[:-1])
    return product_of(braid_of_factor(a.n, a.factors[-1]), before_last)
