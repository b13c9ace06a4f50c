"""Point 1, rs_make, and d of point 2."""

import math
import unittest

from tests.calls import NO_SIZES, SIZES, ask, held, key, make, make_without_bytes, numbers
from tests.samples import (
    EDGE_PRIME, EDGE_PRIME_ABOVE, EDGE_PRIME_BELOW, KEY_PRIMES, PASSES_NINETEEN, PASSES_TWENTY,
    PRIME_OVER_65537, TWO_GREAT_PRIMES,
)

FIRST, SECOND = KEY_PRIMES[128]


def secret_of(exponent, first, second):
    return pow(exponent, -1, math.lcm(first - 1, second - 1))


class RightKeys(unittest.TestCase):
    def assert_made(self, size, exponent, first, second):
        secret = secret_of(exponent, first, second)
        got = ask(make(size, exponent, first, second), numbers())
        self.assertEqual(got, [[0], held(size, first * second, secret)])

    def test_each_size(self):
        for size in SIZES:
            with self.subTest(size=size):
                self.assert_made(size, 65537, *KEY_PRIMES[size])

    def test_the_primes_in_the_other_order(self):
        self.assert_made(128, 65537, SECOND, FIRST)

    def test_d_is_below_the_least_common_multiple(self):
        for size in (128, 256):
            for exponent in (3, 65537):
                first, second = KEY_PRIMES[size]
                with self.subTest(size=size, exponent=exponent):
                    product_inverse = pow(exponent, -1, (first - 1) * (second - 1))
                    self.assertNotEqual(product_inverse, secret_of(exponent, first, second))
                    self.assert_made(size, exponent, first, second)

    def test_least_and_greatest_exponent(self):
        self.assert_made(128, 3, FIRST, SECOND)
        self.assert_made(128, 4294967295, FIRST, SECOND)

    def test_the_key_undoes_itself(self):
        made, known = ask(make(128, 65537, FIRST, SECOND), numbers())
        modulus = int.from_bytes(bytes(known[1:129]), "big")
        secret = int.from_bytes(bytes(known[129:]), "big")
        self.assertEqual(pow(pow(123456789, 65537, modulus), secret, modulus), 123456789)

    def test_product_just_of_enough_bits(self):
        self.assertEqual((EDGE_PRIME * EDGE_PRIME_ABOVE).bit_length(), 1024)
        self.assert_made(128, 65537, EDGE_PRIME, EDGE_PRIME_ABOVE)

    def test_taken_for_a_prime_with_20_rounds_is_enough(self):
        self.assert_made(128, 65537, PASSES_TWENTY, FIRST)
        self.assert_made(128, 65537, FIRST, PASSES_TWENTY)

    def test_a_key_takes_the_place_of_the_one_before(self):
        got = ask(key(256, 3, 2 ** 2048 - 1), make(128, 3, FIRST, SECOND), numbers())
        self.assertEqual(got, [[0], [0], held(128, FIRST * SECOND, secret_of(3, FIRST, SECOND))])


class Refusals(unittest.TestCase):
    def assert_refused(self, call, refusal):
        self.assertEqual(ask(call, numbers()), [[refusal], [-2]])
        self.assertEqual(ask(make(128, 65537, FIRST, SECOND), call, numbers()), [[0], [refusal], [-2]])
        self.assertEqual(ask(key(128, 3, FIRST * SECOND), call, numbers()), [[0], [refusal], [-2]])

    def test_no_such_size(self):
        for size in NO_SIZES:
            with self.subTest(size=size):
                self.assert_refused(make_without_bytes(size, 65537), -1)

    def test_no_such_exponent(self):
        for exponent in (0, 1, 2, 4, 65536, 4294967294):
            with self.subTest(exponent=exponent):
                self.assert_refused(make(128, exponent, FIRST, SECOND), -1)

    def test_no_such_exponent_is_told_ahead_of_no_key(self):
        for exponent in (0, 1, 2, 65536):
            with self.subTest(exponent=exponent):
                self.assert_refused(make(128, exponent, FIRST, FIRST), -1)
                self.assert_refused(make(128, exponent, 0, 0), -1)
                self.assert_refused(make(128, exponent, TWO_GREAT_PRIMES, SECOND), -1)
        self.assert_refused(make_without_bytes(100, 2), -1)

    def test_the_same_primes(self):
        for size in (128, 256):
            first, second = KEY_PRIMES[size]
            with self.subTest(size=size):
                self.assert_refused(make(size, 65537, first, first), -3)
                self.assert_refused(make(size, 65537, second, second), -3)

    def test_not_a_prime(self):
        divided = FIRST - 2
        while divided % 1999 != 0:
            divided -= 2
        for other in (TWO_GREAT_PRIMES, divided, 2 ** 512 - 2):
            with self.subTest(other=other):
                self.assertEqual((other * FIRST).bit_length(), 1024)
                self.assert_refused(make(128, 65537, other, FIRST), -3)
                self.assert_refused(make(128, 65537, FIRST, other), -3)

    def test_nineteen_rounds_are_not_enough(self):
        # Only the rounds can refuse it: the product has its bits and the exponent its inverse.
        self.assertGreater(secret_of(65537, PASSES_NINETEEN, FIRST), 0)
        self.assertEqual((PASSES_NINETEEN * FIRST).bit_length(), 1024)
        self.assert_refused(make(128, 65537, PASSES_NINETEEN, FIRST), -3)
        self.assert_refused(make(128, 65537, FIRST, PASSES_NINETEEN), -3)

    def test_product_of_fewer_bits(self):
        self.assertEqual((EDGE_PRIME * EDGE_PRIME_BELOW).bit_length(), 1023)
        self.assert_refused(make(128, 65537, EDGE_PRIME, EDGE_PRIME_BELOW), -3)
        self.assert_refused(make(128, 65537, EDGE_PRIME_BELOW, EDGE_PRIME), -3)
        for size in (256, 384, 512):
            with self.subTest(size=size):
                self.assert_refused(make(size, 65537, FIRST, SECOND), -3)

    def test_small_numbers(self):
        for first, second in ((0, 0), (0, 1), (1, 0), (1, 1), (0, FIRST), (FIRST, 1), (2, 3), (3, FIRST), (FIRST, 2)):
            with self.subTest(first=first, second=second):
                self.assert_refused(make(128, 65537, first, second), -3)

    def test_exponent_without_an_inverse(self):
        self.assertEqual((PRIME_OVER_65537 - 1) % 65537, 0)
        self.assert_refused(make(128, 65537, PRIME_OVER_65537, FIRST), -3)
        self.assert_refused(make(128, 65537, FIRST, PRIME_OVER_65537), -3)
        self.assert_refused(make(128, 65537 * 3, PRIME_OVER_65537, FIRST), -3)

    def test_a_key_can_be_made_after_a_refusal(self):
        got = ask(make(128, 3, FIRST, FIRST), make(128, 3, FIRST, SECOND), numbers())
        self.assertEqual(got, [[-3], [0], held(128, FIRST * SECOND, secret_of(3, FIRST, SECOND))])
