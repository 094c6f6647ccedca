"""Drawn deeds counted by whole weights: dicts from the codes of rows to weights, without any division.

Of t drawn deeds there are faces ** t cases, and the weight of a row is the number of those that leave it.
"""

from newesttells.codes import code_of, told_bits


class Weights:
    """Weights by rows that need no check any more, for the books that methods return."""

    def __init__(self, checked):
        self.checked = checked


def by_code(weights):
    """The weights of a dict from rows, by the codes of the rows."""
    return {code_of(row): weight for row, weight in weights.items()}


def by_row(band, weights):
    """The weights of a dict from codes, by the rows of a band, ascending."""
    codes = {row: code_of(row) for row in band.rows()}
    return {row: weights[code] for row, code in codes.items() if code in weights}


def weight_within(weights, told):
    """The weight of all rows that tell no cell but those with some bits."""
    return sum([weight for code, weight in weights.items() if code & ~told == 0])


def rests(weights, told):
    """The weights of what is left of rows without the signs at the cells with some bits."""
    sums = {}
    for code, weight in weights.items():
        rest = code & ~told
        sums[rest] = sums.get(rest, 0) + weight
    return sums


def laid_weights(newer, older):
    """For each row, the sum of the products of a newer and an older weight, over all pairs with the newer row over
    the older one giving it."""
    members = {}
    for code, weight in newer.items():
        members.setdefault(told_bits(code), []).append((code, weight))
    sums = {}
    for told, pairs in members.items():
        # Rows that tell the same cells leave the same of the older rows.
        for rest, under in rests(older, told).items():
            for code, weight in pairs:
                sums[code | rest] = sums.get(code | rest, 0) + weight * under
    return sums


def drawn_weights(weights, t):
    """The weights of what t deeds leave; squaring keeps the steps few."""
    answer = {0: 1}
    square = weights
    while t > 0:
        if t & 1 == 1:
            answer = laid_weights(answer, square)
        t = t >> 1
        if t > 0:
            square = laid_weights(square, square)
    return answer


def steps_within(weights, goal):
    """A dict from the codes that can be read on the way to a goal to where older deeds lead: dicts from codes to
    weights. The goal None stands for all full rows. Further codes are greater."""
    steps = {}
    waiting = [0]
    while len(waiting) > 0:
        code = waiting.pop()
        if code not in steps:
            further = {code | rest: weight for rest, weight in rests(weights, told_bits(code)).items()}
            steps[code] = {then: further[then] for then in further if goal is None or goal & told_bits(then) == then}
            waiting.extend(list(steps[code]))
    return {code: steps[code] for code in sorted(steps)}
