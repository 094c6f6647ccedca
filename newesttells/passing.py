"""The rows that a reading from the newest deed on passes through: with which chances, how often, and after how many.

Rows stand as codes; weights and steps are those of newesttells.weighing.
"""

from newesttells.ratios import ONE, ZERO, divided, minus, plus, ratio, times
from newesttells.weighing import steps_within


def passing_shares(steps, faces):
    """A dict from the codes of the rows of some steps to the chance that an endless reading passes through them."""
    shares = {0: ONE}
    for code, further in steps.items():
        leaving = faces - further.get(code, 0)
        for then, weight in further.items():
            if then != code:
                share = times(shares[code], ratio(weight, leaving))
                shares[then] = plus(shares.get(then, ZERO), share)
    return shares


def mean_visits(steps, faces):
    """A dict from the codes of the rows of some steps to the mean number of t at which t drawn deeds leave them; the
    rows that all deeds keep are left out."""
    visits = {}
    for code, share in passing_shares(steps, faces).items():
        leaving = faces - steps[code].get(code, 0)
        if leaving > 0:
            visits[code] = times(share, ratio(faces, leaving))
    return visits


def own_factors(coming, kept, beginning):
    """The factors of a row by whole numbers w, such that the weight of the cases in which t deeds leave the row is
    the sum of factor * w ** t: from the factors that come to it with each further deed, the weight with which a
    further deed keeps it, and the sum of its factors."""
    factors = {}
    rest = beginning
    for number, factor in coming.items():
        # What comes with the kept weight itself adds up to 0, because the weights of all rows are sums of powers.
        if number != kept:
            factors[number] = divided(factor, (number - kept, 1))
            rest = minus(rest, factors[number])
    factors[kept] = rest
    return factors


def power_terms(weights, faces, goal):
    """The terms (a, v) of the chance that drawn deeds leave the row with a code."""
    steps = steps_within(weights, goal)
    coming = {code: {} for code in steps}
    factors = {}
    for code, further in steps.items():
        factors = own_factors(coming[code], further.get(code, 0), ONE if code == 0 else ZERO)
        for then, weight in further.items():
            if then != code:
                for number, factor in factors.items():
                    coming[then][number] = plus(coming[then].get(number, ZERO), times((weight, 1), factor))
    # No row on the way has a greater code than the goal, which is the last one if it can be left at all.
    if goal not in steps:
        return []
    return [(factor, ratio(number, faces)) for number, factor in factors.items()]
