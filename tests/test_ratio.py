import unittest
from fractions import Fraction
from itertools import product

from talkmost.ratio import (
    add, added, at_most, cover, div, dot, first_greatest, greatest, is_fraction, less, mul, multiplied, neg,
    nested_numbers, ratio, scaled, sub,
)

HUGE = 10 ** 9999 + 7
SAMPLES = [
    (0, 1), (1, 1), (-1, 1), (1, 2), (-1, 2), (2, 3), (-2, 3), (3, 2), (5, 6), (-7, 4), (12, 1),
    (HUGE, 1), (-HUGE, 1), (1, HUGE), (HUGE, HUGE + 1),
]


def pair(number):
    return (number.numerator, number.denominator)


class RatioTest(unittest.TestCase):
    def same(self, found, wanted):
        """Compare without showing the numbers: Python refuses to write such long ones."""
        self.assertIs(type(found), tuple)
        self.assertTrue(found == pair(wanted))

    def test_example(self):
        self.assertEqual(add(ratio(2, 4), (1, 3)), (5, 6))

    def test_ratio_is_in_lowest_terms(self):
        self.assertEqual(ratio(2, 4), (1, 2))
        self.assertEqual(ratio(6, 3), (2, 1))
        self.assertEqual(ratio(-6, 4), (-3, 2))
        self.assertEqual(ratio(7, 1), (7, 1))

    def test_ratio_with_q_below_0(self):
        self.assertEqual(ratio(2, -4), (-1, 2))
        self.assertEqual(ratio(-2, -4), (1, 2))
        self.assertEqual(ratio(0, -4), (0, 1))
        self.assertEqual(ratio(3, -1), (-3, 1))

    def test_ratio_of_0(self):
        self.assertEqual(ratio(0, 9), (0, 1))

    def test_ratio_of_many_digits(self):
        self.assertTrue(ratio(HUGE * 6, HUGE * 4) == (3, 2))
        self.assertTrue(ratio(HUGE * 6, HUGE * -4) == (-3, 2))
        self.assertTrue(ratio(HUGE, 1) == (HUGE, 1))

    def test_against_the_fractions_of_python(self):
        for a, b in product(SAMPLES, SAMPLES):
            left, right = Fraction(*a), Fraction(*b)
            self.same(add(a, b), left + right)
            self.same(sub(a, b), left - right)
            self.same(mul(a, b), left * right)
            if right != 0:
                self.same(div(a, b), left / right)
            self.assertIs(less(a, b), left < right)
            self.assertIs(at_most(a, b), left <= right)
        for a in SAMPLES:
            self.same(neg(a), -Fraction(*a))

    def test_equal_and_opposite_numbers(self):
        self.assertEqual(sub((5, 6), (5, 6)), (0, 1))
        self.assertEqual(add((5, 6), (-5, 6)), (0, 1))
        self.assertEqual(add((1, 6), (1, 6)), (1, 3))
        self.assertEqual(div((-5, 6), (-5, 6)), (1, 1))
        self.assertEqual(div((1, 2), (-1, 3)), (-3, 2))
        self.assertEqual(mul((2, 3), (3, 2)), (1, 1))
        self.assertEqual(mul((0, 1), (-3, 2)), (0, 1))
        self.assertEqual(div((0, 1), (-3, 2)), (0, 1))
        self.assertEqual(neg((0, 1)), (0, 1))

    def test_less_and_at_most_of_equal_numbers(self):
        self.assertIs(less((1, 3), (1, 3)), False)
        self.assertIs(at_most((1, 3), (1, 3)), True)
        self.assertIs(less((-1, 2), (-1, 3)), True)
        self.assertIs(at_most((-1, 3), (-1, 2)), False)

    def test_added(self):
        self.assertEqual(added([]), (0, 1))
        self.assertEqual(added([(-3, 4)]), (-3, 4))
        numbers = [(1, 2), (1, 3), (1, 6), (-5, 2)]
        self.assertEqual(added(numbers), (-3, 2))
        self.assertEqual(numbers, [(1, 2), (1, 3), (1, 6), (-5, 2)])

    def test_added_of_long_numbers(self):
        found = added([(HUGE, 3), (-HUGE, 6), (1, HUGE), (HUGE - 1, HUGE)])
        self.same(found, Fraction(HUGE, 6) + 1)

    def test_all_small_numbers(self):
        small = [ratio(p, q) for p in range(-6, 7) for q in range(1, 13)]
        for a, b in product(small, small):
            self.same(add(a, b), Fraction(*a) + Fraction(*b))
            self.same(sub(a, b), Fraction(*a) - Fraction(*b))

    def test_dot(self):
        self.assertEqual(dot([], []), (0, 1))
        self.assertEqual(dot([(1, 2)], [(2, 3)]), (1, 3))
        a, b = [(1, 2), (-1, 3), (0, 1)], [(4, 1), (3, 1), (5, 7)]
        self.assertEqual(dot(a, b), (1, 1))
        self.assertEqual((a, b), ([(1, 2), (-1, 3), (0, 1)], [(4, 1), (3, 1), (5, 7)]))

    def test_multiplied_and_scaled(self):
        self.assertEqual(multiplied([]), (1, 1))
        self.assertEqual(multiplied([(2, 3), (3, 4), (-1, 5)]), (-1, 10))
        self.assertEqual(scaled((2, 3), [(3, 4), (0, 1), (-1, 1)]), [(1, 2), (0, 1), (-2, 3)])
        self.assertEqual(scaled((2, 3), []), [])

    def test_the_greatest(self):
        numbers = [(-1, 2), (2, 3), (1, 2), (2, 3), (-5, 1)]
        self.assertEqual((first_greatest(numbers), greatest(numbers)), (1, (2, 3)))
        self.assertEqual((first_greatest([(-3, 1)]), greatest([(-3, 1)])), (0, (-3, 1)))
        self.assertEqual(first_greatest([(0, 1), (0, 1)]), 0)

    def test_cover(self):
        lists = [[(1, 2), (1, 3)], [], [(0, 1), (-1, 1)]]
        self.assertIs(cover([(1, 2), (0, 1), (0, 1)], lists), True)
        self.assertIs(cover([(2, 5), (0, 1), (0, 1)], lists), False)
        self.assertIs(cover([(1, 2), (0, 1), (-1, 9)], lists), False)

    def test_nested_numbers(self):
        nested = [[(1, 2), (-3, 1)], [(0, 1), (1, 1)], [(5, 2), (0, 1)]]
        self.assertIs(nested_numbers(nested, [3, 2]), True)
        self.assertIs(nested_numbers([], [0]), True)
        for counts in ([2, 2], [3, 3], [3, 1], [4, 2]):
            self.assertIs(nested_numbers(nested, counts), False)
        nested[1][1] = (2, 4)
        self.assertIs(nested_numbers(nested, [3, 2]), False)

    def test_is_fraction(self):
        for number in SAMPLES:
            self.assertIs(is_fraction(number), True)
        for number in ((2, 4), (0, 2), (1, 0), (0, 0), (1, -2), (3, 3), (1,), (1, 2, 3)):
            self.assertIs(is_fraction(number), False)


if __name__ == "__main__":
    unittest.main()
