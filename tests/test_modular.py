"""Sums modulo a number, against Python's own."""

import math
import unittest

from greatkeys.modular import common_divisor, common_multiple, inverse, power
from tests.samples import KEY_PRIMES


class Modular(unittest.TestCase):
    def test_power_of_small_numbers(self):
        for modulus in (2, 3, 10, 97, 1000):
            for base in (0, 1, 2, 3, 96, 97, 98):
                for exponent in (0, 1, 2, 4, 5, 6, 9, 10, 11, 31, 32, 33, 1023, 1024, 1025):
                    self.assertEqual(power(base, exponent, modulus), pow(base, exponent, modulus))

    def test_power_of_great_numbers(self):
        first, second = KEY_PRIMES[256]
        for exponent in (65537, first, second - 1, 2 ** 2040, 2 ** 2047 - 1):
            self.assertEqual(power(first, exponent, first * second), pow(first, exponent, first * second))

    def test_common_divisor_and_multiple(self):
        for first in range(1, 40):
            for second in range(1, 40):
                self.assertEqual(common_divisor(first, second), math.gcd(first, second))
                self.assertEqual(common_multiple(first, second), math.lcm(first, second))

    def test_inverse(self):
        for modulus in range(2, 60):
            for number in range(0, 130):
                if math.gcd(number, modulus) == 1:
                    self.assertEqual(inverse(number, modulus), pow(number, -1, modulus))
                else:
                    self.assertIsNone(inverse(number, modulus))
