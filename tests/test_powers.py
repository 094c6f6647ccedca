"""The interface under newesttells/powers.py; promise [28]."""

import random
import unittest
from fractions import Fraction

from helpers import any_values, check_raises, same
from newesttells.errors import BadNumber, BadRatio
from newesttells.powers import Powers
from newesttells.ratios import ratio

HALF, THIRD, ONE, ZERO = (1, 2), (1, 3), (1, 1), (0, 1)


def fraction(one):
    return Fraction(one[0], one[1])


def value(parts, t):
    """The value of a list of terms by the words of [28]."""
    found = sum((fraction(a) * fraction(v) ** t for a, v in parts), Fraction(0))
    return found.numerator, found.denominator


def some_terms(source):
    vs = [ratio(top, bottom) for bottom in range(1, 5) for top in range(bottom + 1)]
    many = source.randint(0, 6)
    return [(ratio(source.randint(-3, 3), source.randint(1, 3)), source.choice(vs)) for _ in range(many)]


def wrong_t():
    return [one for one in any_values() + [-1, 401, 10 ** 30, Powers(), [1], "1"]
            if type(one) is not int or not 0 <= one <= 400]


class PartsTest(unittest.TestCase):
    def test_order_sums_and_zeros(self):
        powers = Powers([(ONE, HALF), ((2, 1), ZERO), (ZERO, THIRD), ((-1, 3), HALF), ((5, 1), ONE)])
        self.assertTrue(same(powers.parts(), [((2, 1), ZERO), ((2, 3), HALF), ((5, 1), ONE)]))
        self.assertEqual(len(powers), 3)

    def test_ascending_by_value(self):
        vs = [ratio(top, bottom) for bottom in range(1, 9) for top in range(bottom + 1)]
        parts = Powers([(ONE, v) for v in vs[::-1]]).parts()
        self.assertEqual([v for _, v in parts], sorted(set(vs), key=fraction))

    def test_terms_that_cancel(self):
        cancelled = Powers([(HALF, THIRD), ((-1, 2), THIRD)])
        for powers in (cancelled, Powers([(ZERO, ONE)]), Powers([]), Powers(), Powers(())):
            self.assertTrue(same(powers.parts(), []))
            self.assertEqual([powers.value_at(t) for t in (0, 1, 400)], [ZERO] * 3)
            self.assertEqual([len(powers), bool(powers), repr(powers), powers.sum_of_all()],
                             [0, True, "Powers(0 parts)", ZERO])
        three = Powers([(THIRD, HALF)] * 3 + [((-1, 1), HALF), (ONE, ONE)])
        self.assertEqual(three.parts(), [(ONE, ONE)])

    def test_equal_values_have_the_same_parts(self):
        source = random.Random(600)
        for _ in range(100):
            terms = some_terms(source)
            shuffled = source.sample(terms, len(terms))
            self.assertEqual(Powers(terms), Powers(tuple(shuffled)))
            self.assertEqual(Powers(parts=terms).parts(), Powers(shuffled).parts())

    def test_lists_are_copied(self):
        terms = [(ONE, HALF)]
        powers = Powers(terms)
        terms.clear()
        powers.parts().clear()
        self.assertEqual(powers.parts(), [(ONE, HALF)])


class ValueTest(unittest.TestCase):
    def test_against_the_words(self):
        source = random.Random(610)
        for _ in range(100):
            terms = some_terms(source)
            powers = Powers(terms)
            for t in (0, 1, 2, 3, 7, 30):
                self.assertTrue(same(powers.value_at(t), value(terms, t)))
                self.assertTrue(same(powers(t), value(terms, t)))
                self.assertEqual(powers(t=t), powers.value_at(t=t))

    def test_0_to_the_power_0_is_1(self):
        powers = Powers([((3, 2), ZERO), (HALF, ONE)])
        self.assertTrue(same([powers(0), powers(1), powers(400)], [(2, 1), HALF, HALF]))

    def test_t_of_400(self):
        self.assertEqual(Powers([(ONE, HALF)])(400), (1, 2 ** 400))
        self.assertEqual(Powers([(ONE, HALF), ((-1, 1), THIRD)])(400), value([(ONE, HALF), ((-1, 1), THIRD)], 400))

    def test_wrong_t(self):
        for powers in (Powers([(ONE, HALF)]), Powers()):
            for one in wrong_t():
                check_raises(self, BadNumber, {"value": one}, powers.value_at, one)
                check_raises(self, BadNumber, {"value": one}, powers, one)

    def test_sum_of_all(self):
        self.assertTrue(same(Powers([(ONE, HALF), ((2, 1), ZERO)]).sum_of_all(), (4, 1)))
        self.assertTrue(same(Powers([(ONE, HALF), ((-1, 1), THIRD)]).sum_of_all(), HALF))
        powers = Powers([((3, 1), (2, 3)), ((-1, 4), HALF)])
        near = sum(fraction(powers(t)) for t in range(100))
        self.assertLess(abs(near - fraction(powers.sum_of_all())), Fraction(1, 10 ** 12))

    def test_sum_of_all_with_1(self):
        for terms in ([(ONE, ONE)], [(ONE, HALF), (THIRD, ONE)]):
            check_raises(self, BadRatio, {"value": ONE}, Powers(terms).sum_of_all)
        self.assertEqual(Powers([(ONE, HALF), (ONE, ONE), ((-1, 1), ONE)]).sum_of_all(), (2, 1))


class OperatorTest(unittest.TestCase):
    def test_sums_and_differences(self):
        source = random.Random(620)
        for _ in range(60):
            one, other = some_terms(source), some_terms(source)
            x, y = Powers(one), Powers(other)
            for t in (0, 1, 2, 5):
                self.assertEqual(fraction((x + y)(t)), fraction(x(t)) + fraction(y(t)))
                self.assertEqual(fraction((x - y)(t)), fraction(x(t)) - fraction(y(t)))
            self.assertEqual(x + y, Powers(one + other))
            self.assertEqual([(x - x).parts(), x + Powers(), Powers() - x], [[], x, -1 * x])
            self.assertEqual([x, y], [Powers(one), Powers(other)])

    def test_times_a_number(self):
        powers = Powers([(HALF, THIRD), ((-2, 1), ONE)])
        for number in (0, 1, -1, 7, 10 ** 30):
            expected = Powers([(ratio(number, 2), THIRD), ((-2 * number, 1), ONE)])
            self.assertEqual([number * powers, powers * number], [expected, expected])
        self.assertEqual((0 * powers).parts(), [])
        self.assertEqual(powers, Powers([(HALF, THIRD), ((-2, 1), ONE)]))

    def test_something_else(self):
        powers = Powers([(ONE, HALF)])
        for other in (None, 1, "a", [], (1, 2), [(ONE, HALF)]):
            for call in (lambda: powers + other, lambda: other + powers,
                         lambda: powers - other, lambda: other - powers):
                with self.assertRaises(TypeError):
                    call()
        for other in (None, "a", [], (1, 2), powers):
            for call in (lambda: powers * other, lambda: other * powers):
                with self.assertRaises(TypeError):
                    call()

    def test_equal(self):
        powers = Powers([(ONE, HALF), (HALF, ONE)])
        self.assertTrue(powers == Powers([(HALF, ONE), (ONE, HALF)]))
        self.assertFalse(powers != Powers([(HALF, ONE), (ONE, HALF)]))
        self.assertTrue(powers != Powers([(ONE, HALF)]))
        self.assertTrue(powers != Powers([(ONE, HALF), (THIRD, ONE)]))
        for other in any_values() + [powers.parts(), len(powers)]:
            self.assertIs(powers == other, False)
            self.assertIs(other == powers, False)
            self.assertIs(Powers() == other, False)

    def test_repr_and_truth(self):
        powers = Powers([(ONE, HALF), (HALF, ONE)])
        self.assertEqual([repr(powers), len(powers), bool(powers)], ["Powers(2 parts)", 2, True])
        self.assertEqual(repr(Powers([(ONE, HALF)])), "Powers(1 parts)")
        self.assertIs(bool(Powers()), True)


if __name__ == "__main__":
    unittest.main()
