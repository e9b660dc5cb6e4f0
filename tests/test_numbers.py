import random
import unittest
from fractions import Fraction
from math import gcd

from plain import pair_of, some_number, told
from textworths.errors import InvalidNumber
from textworths.numbers import (
    added, check_number, check_numbers, common_below, number, power, product, quotient, shortened,
)

# Two integers with a common divisor, and an integer below that is 0 or less.
WRONG = [
    (2, 4), (0, 2), (-6, 3), (10 ** 30, 10 ** 29), (5, 5), (1, 0), (0, 0), (-1, 0), (1, -1), (0, -1),
    (3, -2), (-3, -2), (7 * 10 ** 20, -1),
]
RIGHT = [(0, 1), (1, 1), (-1, 1), (1, 2), (-3, 2), (10 ** 30 - 1, 10 ** 29), (5, 3)]


class Number(unittest.TestCase):
    def test_lowest_terms(self):
        told_ones = {
            (6, -4): (-3, 2), (-6, -4): (3, 2), (6, 4): (3, 2), (-6, 4): (-3, 2), (0, 7): (0, 1),
            (0, -7): (0, 1), (5, 1): (5, 1), (5, -1): (-5, 1), (1, 3): (1, 3), (9, 9): (1, 1),
            (10 ** 30 - 1, -(10 ** 30 - 1)): (-1, 1), (10 ** 29, 10 ** 30 - 10 ** 29): (1, 9),
        }
        for (above, below), wanted in told_ones.items():
            self.assertEqual(number(above, below), wanted)

    def test_many_integers(self):
        source = random.Random(3)
        for digits in list(range(1, 31)) * 5:
            most = 10 ** digits - 1
            common = source.randint(1, 9) * source.choice([1, -1])
            above, below = source.randint(-most, most) * common, source.randint(1, most) * common
            result = number(above, below)
            self.assertIsInstance(result, tuple)
            self.assertEqual(gcd(*result), 1)
            self.assertGreaterEqual(result[1], 1)
            self.assertEqual(result, pair_of(Fraction(above, below)))

    def test_below_is_not_0(self):
        for above in (0, 1, -5, 10 ** 30):
            with self.assertRaises(InvalidNumber) as caught:
                number(above, 0)
            self.assertEqual(caught.exception.value, 0)
            self.assertIs(type(caught.exception.value), int)

    def test_by_name(self):
        self.assertEqual(number(above=2, below=-4), (-1, 2))
        self.assertEqual(number(below=2, above=6), (3, 1))


class Reckoning(unittest.TestCase):
    def raises(self, value, deed, *arguments, **named):
        with self.assertRaises(InvalidNumber) as caught:
            deed(*arguments, **named)
        self.assertEqual(caught.exception.value, value)

    def test_results(self):
        source = random.Random(4)
        pairs = RIGHT + [some_number(source, digits) for digits in range(1, 31)]
        for one in pairs:
            for other in pairs:
                first, second = told(one), told(other)
                self.assertEqual(added(one, other), pair_of(first + second))
                self.assertEqual(product(one, other), pair_of(first * second))
                if second:
                    self.assertEqual(quotient(one, other), pair_of(first / second))

    def test_results_are_in_lowest_terms(self):
        self.assertEqual(added((1, 2), (1, 2)), (1, 1))
        self.assertEqual(added((1, 6), (1, 3)), (1, 2))
        self.assertEqual(added((1, 2), (-1, 2)), (0, 1))
        self.assertEqual(product((2, 3), (3, 2)), (1, 1))
        self.assertEqual(product((0, 1), (3, 2)), (0, 1))
        self.assertEqual(quotient((1, 2), (-1, 2)), (-1, 1))
        self.assertEqual(quotient((0, 1), (-7, 2)), (0, 1))

    def test_power(self):
        for one in RIGHT:
            self.assertEqual(power(one, 0), (1, 1))
            self.assertEqual(power(one, 1), one)
            for times in (2, 3, 7, 40):
                self.assertEqual(power(one, times), pair_of(told(one) ** times))

    def test_by_name(self):
        self.assertEqual(added(other=(1, 3), one=(1, 2)), (5, 6))
        self.assertEqual(product(other=(1, 3), one=(1, 2)), (1, 6))
        self.assertEqual(quotient(other=(1, 3), one=(1, 2)), (3, 2))
        self.assertEqual(power(times=2, one=(1, 2)), (1, 4))
        self.raises((0, 1), quotient, other=(0, 1), one=(1, 2))

    def test_first_wrong_number(self):
        for wrong in WRONG:
            for deed in (added, product, quotient):
                self.raises(wrong, deed, wrong, (1, 2))
                self.raises(wrong, deed, (1, 2), wrong)
                self.raises(wrong, deed, wrong, (8, 4))
                self.raises((8, 4), deed, (8, 4), wrong)
                self.raises((8, 4), deed, other=wrong, one=(8, 4))

    def test_quotient_by_0(self):
        self.raises((0, 1), quotient, (1, 2), (0, 1))
        self.raises((0, 1), quotient, (0, 1), (0, 1))
        self.raises((2, 2), quotient, (2, 2), (0, 1))
        self.raises((0, 3), quotient, (1, 2), (0, 3))

    def test_power_errors(self):
        self.raises(-1, power, (1, 2), -1)
        self.raises(-40, power, (0, 1), -40)
        for wrong in WRONG:
            self.raises(wrong, power, wrong, 2)
            self.raises(wrong, power, wrong, 0)
            self.raises(wrong, power, wrong, -1)


class Helpers(unittest.TestCase):
    def test_check(self):
        for right in RIGHT:
            self.assertIsNone(check_number(right))
        for wrong in WRONG:
            self.assertRaises(InvalidNumber, check_number, wrong)
        self.assertIsNone(check_numbers([]))
        with self.assertRaises(InvalidNumber) as caught:
            check_numbers([(1, 2), (2, 2), (3, 3)])
        self.assertEqual(caught.exception.value, (2, 2))

    def test_common_below(self):
        self.assertEqual(common_below([]), (1, []))
        self.assertEqual(common_below([(1, 2), (-2, 3), (0, 1), (5, 4)]), (12, [6, -8, 0, 15]))

    def test_shortened(self):
        self.assertEqual(shortened(12, [6, -8, 0, 14]), (6, [3, -4, 0, 7]))
        self.assertEqual(shortened(12, [6, -8, 0, 15]), (12, [6, -8, 0, 15]))
        self.assertEqual(shortened(12, [0, 0]), (1, [0, 0]))
        self.assertEqual(shortened(12, []), (1, []))


if __name__ == "__main__":
    unittest.main()
