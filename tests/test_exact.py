import math
import unittest
from fractions import Fraction

from making import FAR, as_number, as_pair
from pursehall.exact import (are_from_nought, common_divisor, fraction, is_between, is_fraction, is_less, is_whole,
                             plus, weighed)

PAIRS = [as_pair(Fraction(top, bottom)) for top in (-FAR, -7, -1, 0, 1, 4, 9, FAR) for bottom in (1, 2, 3, 14, FAR)]


class Wholes(unittest.TestCase):  # [0.3]
    def test_whole_numbers(self):
        for number in (0, 1, -1, FAR, -FAR):
            self.assertTrue(is_whole(number))
        for thing in (True, False, None, "1", (1, 1), [1]):
            self.assertFalse(is_whole(thing), thing)

    def test_between(self):
        for number, told in ((1, False), (2, True), (3, True), (4, True), (5, False), (-3, False), (FAR, False)):
            self.assertIs(is_between(number, 2, 4), told)
        self.assertFalse(is_between(True, 0, 4))

    def test_common_divisor(self):
        for one in range(-12, 13):
            for other in range(-12, 13):
                self.assertEqual(common_divisor(one, other), math.gcd(one, other))


class Fractions(unittest.TestCase):  # [0.3]
    def test_lowest_terms(self):
        for top in range(-12, 13):
            for bottom in range(1, 13):
                self.assertEqual(fraction(top, bottom), as_pair(Fraction(top, bottom)))

    def test_what_is_a_fraction(self):
        for pair in PAIRS:
            self.assertTrue(is_fraction(pair), pair)
        for thing in ((2, 4), (0, 2), (-3, 3), (FAR, FAR), (1, 0), (0, 0), (1, -1), (1, -FAR), (1,), (1, 2, 3),
                      [1, 2], 1, None, (True, 1), (1, True)):
            self.assertFalse(is_fraction(thing), thing)

    def test_from_nought(self):
        self.assertTrue(are_from_nought([]))
        self.assertTrue(are_from_nought([(0, 1), (1, FAR), (FAR, 1)]))
        for bad in ((-1, FAR), (-1, 1), (2, 2), 0):
            self.assertFalse(are_from_nought([(0, 1), bad]))
            self.assertFalse(are_from_nought([bad, (0, 1)]))

    def test_less_and_plus(self):
        for one in PAIRS:
            for other in PAIRS:
                self.assertIs(is_less(one, other), as_number(one) < as_number(other))
                self.assertEqual(plus(one, other), as_pair(as_number(one) + as_number(other)))

    def test_weighed(self):
        self.assertEqual(weighed([], []), (0, 1))
        self.assertEqual(weighed([(1, 2), (1, 3)], [5, -6]), (1, 2))
        self.assertEqual(weighed([(1, 2), (1, 3)], [4, -6]), (0, 1))


if __name__ == "__main__":
    unittest.main()
