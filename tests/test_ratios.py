"""The interface under newesttells/ratios.py; promise [2] (ratios)."""

import unittest
from fractions import Fraction

from helpers import any_values, check_raises
from newesttells.errors import BadNumber, BadRatio
from newesttells.ratios import divided, less, minus, ordered_ratios, plus, raised, ratio, times, total
from newesttells.words import is_ratio


def pair(fraction):
    return fraction.numerator, fraction.denominator


def some_fractions():
    return [Fraction(top, bottom) for top in (-7, -4, -1, 0, 1, 3, 6, 10 ** 20) for bottom in (1, 2, 3, 9, 10 ** 15)]


class RatiosTest(unittest.TestCase):
    def test_ratio(self):
        self.assertEqual([ratio(6, 4), ratio(-6, 4), ratio(6, -4), ratio(-6, -4)], [(3, 2), (-3, 2), (-3, 2), (3, 2)])
        self.assertEqual([ratio(0, 5), ratio(0, -5), ratio(7, 7), ratio(5), ratio(0), ratio(-3)],
                         [(0, 1), (0, 1), (1, 1), (5, 1), (0, 1), (-3, 1)])
        self.assertEqual(ratio(5, bottom=1), ratio(5))
        self.assertEqual(ratio(top=10, bottom=15), (2, 3))
        self.assertEqual(ratio(10 ** 30, -2 * 10 ** 30), (-1, 2))

    def test_ratio_of_bottom_0(self):
        check_raises(self, BadNumber, {"value": 0}, ratio, 1, 0)
        check_raises(self, BadNumber, {"value": 0}, ratio, 0, bottom=0)
        check_raises(self, BadNumber, {"value": False}, ratio, 1, False)

    def test_ratio_of_a_bottom_that_is_no_number(self):
        for value in any_values():
            if type(value) is not int or value == 0:
                check_raises(self, BadNumber, {"value": value}, ratio, 1, value)

    def test_sums_and_products(self):
        for one in some_fractions():
            for other in some_fractions():
                mine, theirs = pair(one), pair(other)
                self.assertEqual(plus(mine, theirs), pair(one + other))
                self.assertEqual(minus(mine, theirs), pair(one - other))
                self.assertEqual(times(mine, theirs), pair(one * other))
                self.assertIs(less(mine, theirs), one < other)
                if other != 0:
                    self.assertEqual(divided(mine, theirs), pair(one / other))

    def test_answers_are_ratios(self):
        for answer in (plus((1, 2), (-1, 2)), minus((1, 3), (1, 3)), times((0, 1), (5, 3)), divided((1, 2), (-3, 4)),
                       raised((-2, 3), 3), total([(1, 2), (1, 2)])):
            self.assertIs(is_ratio(answer), True, answer)

    def test_divided_by_0(self):
        check_raises(self, BadRatio, {"value": (0, 1)}, divided, (1, 2), (0, 1))
        check_raises(self, BadRatio, {"value": (0, 1)}, divided, (0, 1), (0, 1))
        for value in any_values():
            if value != (1, 2):
                check_raises(self, BadRatio, {"value": value}, divided, (1, 2), value)

    def test_raised(self):
        for one in some_fractions():
            for t in range(8):
                self.assertEqual(raised(pair(one), t), pair(one ** t))
        self.assertEqual(raised((2, 3), 400), (2 ** 400, 3 ** 400))

    def test_raised_to_0(self):
        self.assertEqual([raised((0, 1), 0), raised((1, 1), 0), raised((-5, 7), 0)], [(1, 1), (1, 1), (1, 1)])

    def test_raised_to_huge_powers(self):
        self.assertEqual([raised((0, 1), 10 ** 30), raised((1, 1), 10 ** 30), raised((-1, 1), 10 ** 30 + 1)],
                         [(0, 1), (1, 1), (-1, 1)])

    def test_total(self):
        self.assertEqual(total([]), (0, 1))
        self.assertEqual(total([(1, 2), (1, 3), (1, 6)]), (1, 1))
        self.assertEqual(total([(1, 2), (-1, 2)]), (0, 1))
        self.assertEqual(total(((1, 4), (1, 4), (-1, 3))), (1, 6))
        self.assertEqual(total([pair(one) for one in some_fractions()]), pair(sum(some_fractions())))

    def test_total_leaves_its_list(self):
        ratios = [(1, 2), (1, 3)]
        total(ratios)
        self.assertEqual(ratios, [(1, 2), (1, 3)])

    def test_by_name(self):
        self.assertEqual(plus(one=(1, 2), other=(1, 3)), (5, 6))
        self.assertEqual(minus(one=(1, 2), other=(1, 3)), (1, 6))
        self.assertEqual(times(one=(1, 2), other=(1, 3)), (1, 6))
        self.assertEqual(divided(one=(1, 2), other=(1, 3)), (3, 2))
        self.assertEqual(raised(one=(1, 2), t=3), (1, 8))
        self.assertIs(less(one=(1, 2), other=(1, 3)), False)
        self.assertIs(less((1, 2), (1, 2)), False)
        self.assertEqual(total(ratios=[(1, 2)]), (1, 2))

    def test_ordered_ratios(self):
        ratios = sorted({pair(one) for one in some_fractions()})
        self.assertEqual(ordered_ratios(ratios), sorted(ratios, key=lambda one: Fraction(one[0], one[1])))
        self.assertEqual(ordered_ratios([]), [])


if __name__ == "__main__":
    unittest.main()
