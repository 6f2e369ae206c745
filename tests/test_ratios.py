import random
import unittest
from fractions import Fraction
from math import floor as whole_floor

from gromatic.errors import NoRatio
from gromatic.ratios import divided, floor, minus, nearest, order, plus, ratio, size, times
from helpers import as_ratio, fraction, refuse

GREAT = 10 ** 30 - 1


class Making(unittest.TestCase):
    def test_lowest_terms(self):
        self.assertEqual(ratio(6, 4), (3, 2))
        self.assertEqual(ratio(7, 1), (7, 1))
        self.assertEqual(ratio(12, 3), (4, 1))
        self.assertEqual(ratio(3, 12), (1, 4))
        self.assertIs(type(ratio(6, 4)), tuple)

    def test_either_sign_of_over_and_of_under(self):
        self.assertEqual(ratio(6, 4), (3, 2))
        self.assertEqual(ratio(-6, 4), (-3, 2))
        self.assertEqual(ratio(6, -4), (-3, 2))
        self.assertEqual(ratio(-6, -4), (3, 2))

    def test_nought(self):
        for under in (1, 2, 999, -1, -7, GREAT, -GREAT):
            self.assertEqual(ratio(0, under), (0, 1))

    def test_great_numbers(self):
        self.assertEqual(ratio(GREAT, GREAT), (1, 1))
        self.assertEqual(ratio(2 * GREAT, -GREAT), (-2, 1))
        self.assertEqual(ratio(GREAT, GREAT - 1), (GREAT, GREAT - 1))
        self.assertEqual(ratio(10 ** 29, 10 ** 28), (10, 1))

    def test_no_ratio(self):
        for over in (0, 1, -1, GREAT):
            refuse(self, NoRatio, {}, ratio, over, 0)

    def test_by_name(self):
        self.assertEqual(ratio(under=4, over=2), (1, 2))


class Reckoning(unittest.TestCase):
    def test_ordinary(self):
        self.assertEqual(plus((1, 2), (1, 3)), (5, 6))
        self.assertEqual(plus((1, 2), (1, 2)), (1, 1))
        self.assertEqual(plus((1, 2), (-1, 2)), (0, 1))
        self.assertEqual(minus((1, 2), (1, 3)), (1, 6))
        self.assertEqual(minus((1, 3), (1, 2)), (-1, 6))
        self.assertEqual(minus((5, 7), (5, 7)), (0, 1))
        self.assertEqual(times((2, 3), (3, 4)), (1, 2))
        self.assertEqual(times((-2, 3), (0, 1)), (0, 1))
        self.assertEqual(divided((1, 2), (-3, 4)), (-2, 3))
        self.assertEqual(divided((0, 1), (-3, 4)), (0, 1))

    def test_divided_by_nought(self):
        for one in ((0, 1), (1, 2), (-5, 1)):
            refuse(self, NoRatio, {}, divided, one, (0, 1))

    def test_against_fractions(self):
        chance = random.Random(4)
        for most in (3, 20, GREAT):
            for turn in range(300):
                one = Fraction(chance.randint(-most, most), chance.randint(1, most))
                other = Fraction(chance.randint(-most, most), chance.randint(1, most))
                self.check_pair(one, other)

    def check_pair(self, one, other):
        first, second = as_ratio(one), as_ratio(other)
        self.assertEqual(fraction(plus(first, second)), one + other)
        self.assertEqual(fraction(minus(first, second)), one - other)
        self.assertEqual(fraction(times(first, second)), one * other)
        if other:
            self.assertEqual(fraction(divided(first, second)), one / other)
        self.assertEqual(order(first, second), (one > other) - (one < other))
        self.assertEqual(fraction(size(first)), abs(one))
        self.assertEqual(floor(first), whole_floor(one))
        self.assertEqual(nearest(first), whole_floor(one + Fraction(1, 2)))

    def test_by_name(self):
        for call in (plus, minus, times, divided, order):
            self.assertEqual(call(other=(1, 3), one=(1, 2)), call((1, 2), (1, 3)))


class Telling(unittest.TestCase):
    def test_order(self):
        self.assertEqual(order((1, 3), (1, 2)), -1)
        self.assertEqual(order((1, 2), (1, 2)), 0)
        self.assertEqual(order((1, 2), (1, 3)), 1)
        self.assertEqual(order((-1, 2), (-1, 3)), -1)
        self.assertEqual(order((-1, 3), (-1, 2)), 1)
        self.assertEqual(order((-1, 3), (0, 1)), -1)
        self.assertEqual(order((GREAT, GREAT - 1), (GREAT - 1, GREAT - 2)), -1)

    def test_size(self):
        self.assertEqual(size((-3, 2)), (3, 2))
        self.assertEqual(size((3, 2)), (3, 2))
        self.assertEqual(size((0, 1)), (0, 1))

    def test_floor(self):
        self.assertEqual([floor(one) for one in ((7, 2), (-7, 2), (3, 1), (-3, 1), (1, 9), (-1, 9), (0, 1))],
                         [3, -4, 3, -3, 0, -1, 0])

    def test_nearest(self):
        self.assertEqual([nearest(one) for one in ((7, 3), (8, 3), (-7, 3), (-8, 3), (4, 1), (-4, 1), (0, 1))],
                         [2, 3, -2, -3, 4, -4, 0])

    def test_nearest_just_between_goes_to_the_greater(self):
        self.assertEqual([nearest(one) for one in ((1, 2), (3, 2), (-1, 2), (-3, 2), (-5, 2))],
                         [1, 2, 0, -1, -2])

    def test_nearest_close_to_the_middle(self):
        self.assertEqual(nearest((GREAT // 2, GREAT)), 0)
        self.assertEqual(nearest((GREAT // 2 + 1, GREAT)), 1)


if __name__ == "__main__":
    unittest.main()
