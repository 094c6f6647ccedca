"""Sums of powers: sums of terms a * v ** t, with ratios a and v, for whole numbers t from 0 on."""

from newesttells.errors import BadNumber, BadRatio
from newesttells.ratios import ONE, ZERO, divided, minus, ordered_ratios, plus, raised, times, total
from newesttells.words import is_integer, is_number

MOST_T = 400


def added_parts(parts):
    """The parts of the sum of the terms of a list of pairs (a, v)."""
    sums = {}
    for a, v in parts:
        sums[v] = plus(sums.get(v, ZERO), a)
    kept = [v for v in sums if sums[v] != ZERO]
    return [(sums[v], v) for v in ordered_ratios(kept)]


def times_parts(number, parts):
    """The terms of a list with a number times their factors."""
    return [(times((number, 1), a), v) for a, v in parts]


class Powers:
    """A sum of powers, kept as its parts. It never changes."""

    def __init__(self, parts=()):
        self._parts = added_parts(parts)

    def parts(self):
        """The list of the parts (a, v), ascending by v."""
        return list(self._parts)

    def value_at(self, t):
        """The value at a number t."""
        if not is_number(t, 0, MOST_T):
            raise BadNumber(t)
        return total([times(a, raised(v, t)) for a, v in self._parts])

    def __call__(self, t):
        return self.value_at(t)

    def sum_of_all(self):
        """The sum of the values at all t from 0 on."""
        if ONE in [v for _, v in self._parts]:
            raise BadRatio(ONE)
        return total([divided(a, minus(ONE, v)) for a, v in self._parts])

    def __add__(self, other):
        if not isinstance(other, Powers):
            return NotImplemented
        return Powers(self._parts + other._parts)

    def __sub__(self, other):
        if not isinstance(other, Powers):
            return NotImplemented
        return Powers(self._parts + times_parts(-1, other._parts))

    def __mul__(self, other):
        if not is_integer(other):
            return NotImplemented
        return Powers(times_parts(other, self._parts))

    def __rmul__(self, other):
        return self * other

    def __eq__(self, other):
        return isinstance(other, Powers) and self._parts == other._parts

    def __len__(self):
        return len(self._parts)

    def __bool__(self):
        return True

    def __repr__(self):
        return f"Powers({len(self._parts)} parts)"
