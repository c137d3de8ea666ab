"""What braids begin with."""

from braidbook.braids import Braid
from braidbook.braids import inverse_of
from braidbook.braids import product_of
from braidbook.factors import is_without_crossings
from braidbook.factors import without_beginning
from braidbook.lattice import meet_of
from braidbook.permutations import half_twist


def braid_begins(a, b):
    # A braid has a row without numbers below 0 just if its form has no half
    # twists below 0.
    return product_of(inverse_of(a), b).twists >= 0


def factors_above(a, twists):
    """The factors behind so many half twists, with the half twists above these as factors too."""
    factors = []
    while len(factors) < a.twists - twists:
        factors.append(half_twist(a.n))
    return factors + a.factors


def greatest_beginning(a, b):
    twists = min(a.twists, b.twists)
    of_a = factors_above(a, twists)
    of_b = factors_above(b, twists)
    # What has so many factors begins nothing beyond as many of the other's.
    most = min(len(of_a), len(of_b))
    of_a = of_a[:most]
    of_b = of_b[:most]
    factors = []
    while len(of_a) > 0 and len(of_b) > 0:
        shared = meet_of(of_a[0], of_b[0])
        if is_without_crossings(shared):
            break
        factors.append(shared)
        of_a = without_beginning(of_a, shared)
        of_b = without_beginning(of_b, shared)
    # Each shared factor was the greatest one, as the form asks; none of them is
    # a half twist, for one of the two had no more of these.
    return Braid(a.n, twists, factors)
