"""Lists of factors in the one form, and what keeps them in it."""

from braidbook.permutations import PLACES
from braidbook.permutations import first_then
from braidbook.permutations import half_twist
from braidbook.permutations import seen_from_behind
from braidbook.permutations import taken_back


def turned_by(n, a, twists):
    """What becomes of a when so many half twists pass it; two of them change nothing."""
    return seen_from_behind(n, a) if twists % 2 == 1 else a


def is_without_crossings(a):
    return a == list(range(PLACES))


def hand_over(factors, at):
    """Lets the factor before the one at this index take all crossings it can from it; tells if there were any."""
    # Strands that meet between the two factors as neighbours may cross in the
    # first one instead if they cross in the second alone. Each strand is moved
    # forward past all those before it that allow it, so once is enough.
    arriving = taken_back(factors[at - 1])
    leaving = list(factors[at])
    for i in range(1, PLACES):
        source = arriving[i]
        goal = leaving[i]
        to = i
        while to > 0 and arriving[to - 1] < source and leaving[to - 1] > goal:
            arriving[to] = arriving[to - 1]
            leaving[to] = leaving[to - 1]
            to = to - 1
        arriving[to] = source
        leaving[to] = goal
    if leaving == factors[at]:
        return False
    factors[at - 1] = taken_back(arriving)
    factors[at] = leaving
    return True


def take_in(n, factors, factor):
    """Puts a factor behind those of a form; gives how many half twists come out before them."""
    twist = half_twist(n)
    factors.append(factor)
    at = len(factors) - 1
    # Where nothing more is handed over, all neighbours before are as they were;
    # a half twist goes before all of them at once, and only turns them.
    while factors[at] != twist and at > 0 and hand_over(factors, at):
        at = at - 1
    comes_out = factors[at] == twist
    if comes_out:
        factors.pop(at)
        for i in range(at):
            factors[i] = seen_from_behind(n, factors[i])
    if len(factors) > 0 and is_without_crossings(factors[-1]):
        factors.pop()
    return 1 if comes_out else 0


def without_beginning(factors, beginning):
    """The factors, in their form again, of what is behind a beginning of the first of them."""
    left = list(factors)
    left[0] = first_then(taken_back(beginning), left[0])
    at = 1
    while at < len(left) and not is_without_crossings(left[at - 1]) and hand_over(left, at):
        at = at + 1
    return [a for a in left if not is_without_crossings(a)]
