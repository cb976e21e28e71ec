import copy
import random
import unittest
from fractions import Fraction
from math import gcd, lcm

from lotwander import fracs

NUMBERS = [Fraction(upper, lower) for upper in range(-6, 7) for lower in range(1, 7)]


def pair(number):
    return (number.numerator, number.denominator)


class WholeNumbersTest(unittest.TestCase):
    def test_true_and_false_are_none(self):
        for thing in (0, 1, -7, 10 ** 50):
            self.assertTrue(fracs.is_whole(thing))
        for thing in (True, False, 1.0, "1", None, (1,), [1]):
            self.assertFalse(fracs.is_whole(thing))

    def test_common_divisor_and_multiple(self):
        for first in range(-20, 21):
            for second in range(-20, 21):
                self.assertEqual(fracs.common_divisor(first, second), gcd(first, second))
        for first in range(1, 30):
            for second in range(1, 30):
                self.assertEqual(fracs.common_multiple(first, second), lcm(first, second))


class IsFractionTest(unittest.TestCase):
    def test_what_is_one(self):
        for thing in ((0, 1), (1, 1), (1, 3), (7, 2), (-1, 2), (10 ** 40, 10 ** 40 + 1)):
            with self.subTest(thing=thing):
                self.assertTrue(fracs.is_fraction(thing))

    def test_what_is_none(self):
        wrong = ((0, 2), (2, 4), (-3, 6), (1, 0), (0, 0), (1, -2), (0, -1), (True, 1), (1, True), (False, 1), (1, 2, 3),
                 (1,), (), [1, 2], 1, 0.5, "12", None, (1.0, 2), (1, 2.0), ("1", 2), (1, None), Fraction(1, 2))
        for thing in wrong:
            with self.subTest(thing=thing):
                self.assertFalse(fracs.is_fraction(thing))


class ReckoningTest(unittest.TestCase):
    def test_reduced(self):
        for upper in range(-8, 9):
            for lower in (-6, -4, -1, 1, 2, 6, 8):
                self.assertEqual(fracs.reduced(upper, lower), pair(Fraction(upper, lower)))

    def test_two_by_two(self):
        for first in NUMBERS:
            for second in NUMBERS:
                one, other = pair(first), pair(second)
                self.assertEqual(fracs.plus(one, other), pair(first + second))
                self.assertEqual(fracs.minus(one, other), pair(first - second))
                self.assertEqual(fracs.times(one, other), pair(first * second))
                self.assertEqual(fracs.is_less(one, other), first < second)
                if second != 0:
                    self.assertEqual(fracs.divided(one, other), pair(first / second))

    def test_total(self):
        self.assertEqual(fracs.total([]), (0, 1))
        self.assertEqual(fracs.total([(1, 3), (1, 6), (1, 2)]), (1, 1))
        self.assertEqual(fracs.total(((1, 3), (1, 6))), (1, 2))

    def test_solved(self):
        self.assertEqual(fracs.solved([], []), [])
        self.assertEqual(fracs.solved([[4]], [6]), [(3, 2)])
        source = random.Random(4)
        for count in range(1, 9):
            for size in (3, 10 ** 20):
                # What leaves each room is more than what goes from it to the others: then there is one answer.
                matrix = [[-source.randint(0, size) for column in range(count)] for row in range(count)]
                for place in range(count):
                    matrix[place][place] = 1 - sum(matrix[place]) + matrix[place][place]
                sides = [source.randint(-size, size) for row in range(count)]
                kept = copy.deepcopy((matrix, sides))
                told = [Fraction(*part) for part in fracs.solved(matrix, sides)]
                self.assertEqual((matrix, sides), kept)
                for row, side in zip(matrix, sides):
                    self.assertEqual(sum(weight * part for weight, part in zip(row, told)), side)


if __name__ == "__main__":
    unittest.main()
