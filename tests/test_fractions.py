"""Exact fractions, held against Python's own."""

import itertools
import unittest
from fractions import Fraction
from math import gcd

from rimhouse.fractions import (
    NOUGHT, ONE, added, common_divisor, compared, divided, less_by, lowest, multiplied, over_one_bottom, total,
)

GREAT = 10 ** 299
WHOLES = [-GREAT - 1, -12, -7, -1, 0, 1, 2, 3, 7, 12, 18, 10 ** 9, GREAT, GREAT + 7]
ONES = [
    (0, 1), (1, 1), (-1, 1), (1, 2), (-1, 2), (2, 3), (7, 12), (-7, 12), (12, 7), (10 ** 9, 1),
    (1, GREAT), (-1, GREAT), (GREAT, 1), (GREAT - 1, GREAT), (GREAT + 1, GREAT), (1, GREAT * 10 - 1),
]


def told(value):
    return (value.numerator, value.denominator)


class Fractions(unittest.TestCase):
    def check(self, got, value):
        self.assertEqual(got, told(value))
        self.assertIs(type(got), tuple)
        self.assertEqual([type(part) for part in got], [int, int])

    def test_nought_and_one(self):
        self.check(NOUGHT, Fraction(0))
        self.check(ONE, Fraction(1))

    def test_common_divisor(self):
        for one, other in itertools.product(WHOLES, WHOLES):
            with self.subTest(one=one, other=other):
                self.assertEqual(common_divisor(one, other), gcd(one, other))

    def test_lowest_terms_with_the_sign_at_the_top(self):
        for top, bottom in itertools.product(WHOLES, WHOLES):
            if bottom != 0:
                with self.subTest(top=top, bottom=bottom):
                    self.check(lowest(top, bottom), Fraction(top, bottom))

    def test_a_bottom_of_nought_is_no_fraction(self):
        for top in WHOLES:
            with self.subTest(top):
                self.assertRaises(ZeroDivisionError, lowest, top, 0)
        self.assertRaises(ZeroDivisionError, divided, (1, 2), NOUGHT)
        self.assertRaises(ZeroDivisionError, divided, NOUGHT, NOUGHT)

    def test_sums_products_and_quotients(self):
        for one, other in itertools.product(ONES, ONES):
            with self.subTest(one=one, other=other):
                left, right = Fraction(*one), Fraction(*other)
                self.check(added(one, other), left + right)
                self.check(less_by(one, other), left - right)
                self.check(multiplied(one, other), left * right)
                if right != 0:
                    self.check(divided(one, other), left / right)

    def test_compared(self):
        for one, other in itertools.product(ONES, ONES):
            with self.subTest(one=one, other=other):
                left, right = Fraction(*one), Fraction(*other)
                got = compared(one, other)
                self.assertEqual(got, (left > right) - (left < right))
                self.assertIs(type(got), int)

    def test_total(self):
        for many in range(4):
            for ones in itertools.combinations(ONES, many):
                with self.subTest(ones):
                    self.check(total(list(ones)), sum([Fraction(*one) for one in ones], Fraction(0)))

    def test_over_one_bottom(self):
        self.assertEqual(over_one_bottom([]), ([], 1))
        self.assertEqual(over_one_bottom([(0, 1)]), ([0], 1))
        self.assertEqual(over_one_bottom([(1, 4), (-5, 6), (0, 1), (2, 1)]), ([3, -10, 0, 24], 12))

    def test_what_is_handed_in_stays_as_it_was(self):
        ones = [(1, 2), (-1, 3), (0, 1)]
        total(ones)
        over_one_bottom(ones)
        self.assertEqual(ones, [(1, 2), (-1, 3), (0, 1)])


if __name__ == "__main__":
    unittest.main()
