"""Ratios: tuples (top, bottom) of two numbers in lowest terms, and sums with them."""

from math import gcd, lcm

from newesttells.errors import BadNumber, BadRatio
from newesttells.words import is_integer, is_ratio

ZERO = (0, 1)
ONE = (1, 1)


def ratio(top, bottom=1):
    """The ratio with the value of top divided by bottom."""
    if not is_integer(bottom) or bottom == 0:
        raise BadNumber(bottom)
    shared = gcd(top, bottom)
    if bottom < 0:
        shared = -shared
    return top // shared, bottom // shared


def plus(one, other):
    """The sum of two ratios."""
    return ratio(one[0] * other[1] + other[0] * one[1], one[1] * other[1])


def minus(one, other):
    """The first ratio less the second one."""
    return ratio(one[0] * other[1] - other[0] * one[1], one[1] * other[1])


def times(one, other):
    """The product of two ratios."""
    return ratio(one[0] * other[0], one[1] * other[1])


def divided(one, other):
    """The first ratio divided by the second one."""
    if not is_ratio(other) or other[0] == 0:
        raise BadRatio(other)
    return ratio(one[0] * other[1], one[1] * other[0])


def number_raised(number, t):
    """A number to the power t; squaring keeps the steps few where t is huge."""
    answer = 1
    square = number
    while t > 0:
        if t & 1 == 1:
            answer = answer * square
        t = t >> 1
        if t > 0:
            square = square * square
    return answer


def raised(one, t):
    """A ratio to the power t; a ratio to the power 0 is 1."""
    return number_raised(one[0], t), number_raised(one[1], t)


def less(one, other):
    """Whether the first ratio is less than the second one."""
    return one[0] * other[1] < other[0] * one[1]


def total(ratios):
    """The sum of a list of ratios."""
    answer = ZERO
    for one in ratios:
        answer = plus(answer, one)
    return answer


def ordered_ratios(ratios):
    """Different ratios, none of them twice in the list, ascending by their values."""
    common = 1
    for one in ratios:
        common = lcm(common, one[1])
    scaled = {one[0] * (common // one[1]): one for one in ratios}
    return [scaled[top] for top in sorted(scaled)]
