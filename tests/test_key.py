"""Point 1, rs_key."""

import unittest

from tests.calls import NO_SIZES, SIZES, ask, held, key, key_without_bytes, make, make_without_bytes, numbers
from tests.samples import KEY_PRIMES


def modulus_of(size):
    first, second = KEY_PRIMES[size]
    return first * second


class RightKeys(unittest.TestCase):
    def test_each_size_is_held_as_an_open_key(self):
        for size in SIZES:
            with self.subTest(size=size):
                modulus = modulus_of(size)
                self.assertEqual(ask(key(size, 65537, modulus), numbers()), [[0], held(size, modulus, 0)])

    def test_least_and_greatest_modulus(self):
        for size in SIZES:
            for modulus in (2 ** (8 * size - 1) + 1, 2 ** (8 * size) - 1):
                with self.subTest(size=size, modulus=modulus):
                    self.assertEqual(ask(key(size, 3, modulus), numbers()), [[0], held(size, modulus, 0)])

    def test_exponents(self):
        for exponent in (3, 5, 9, 65537, 2147483647, 2147483649, 4294967295):
            with self.subTest(exponent=exponent):
                self.assertEqual(ask(key(128, exponent, modulus_of(128))), [[0]])

    def test_a_key_takes_the_place_of_the_one_before(self):
        first, second = KEY_PRIMES[128]
        got = ask(make(128, 65537, first, second), key(256, 3, modulus_of(256)), numbers())
        self.assertEqual(got, [[0], [0], held(256, modulus_of(256), 0)])

    def test_the_same_modulus_makes_a_made_key_an_open_one(self):
        first, second = KEY_PRIMES[128]
        got = ask(make(128, 65537, first, second), key(128, 65537, first * second), numbers())
        self.assertEqual(got, [[0], [0], held(128, first * second, 0)])


class Refusals(unittest.TestCase):
    def assert_refused(self, call):
        self.assertEqual(ask(call, numbers()), [[-1], [-2]])
        first, second = KEY_PRIMES[128]
        before = make(128, 65537, first, second)
        self.assertEqual(ask(before, call, numbers()), [[0], [-1], [-2]])
        self.assertEqual(ask(key(128, 3, first * second), call, numbers()), [[0], [-1], [-2]])

    def test_no_such_size(self):
        for size in NO_SIZES:
            with self.subTest(size=size):
                self.assert_refused(key_without_bytes(size, 65537))

    def test_no_such_size_nor_exponent(self):
        self.assert_refused(key_without_bytes(100, 2))

    def test_no_such_exponent(self):
        for exponent in (0, 1, 2, 4, 65536, 4294967294):
            with self.subTest(exponent=exponent):
                self.assert_refused(key(128, exponent, modulus_of(128)))

    def test_modulus_of_fewer_bits(self):
        for size in SIZES:
            for modulus in (0, 1, 2 ** (8 * size - 1) - 1, modulus_of(size) >> 8 | 1):
                with self.subTest(size=size, modulus=modulus):
                    self.assert_refused(key(size, 65537, modulus))

    def test_even_modulus(self):
        for size in SIZES:
            for modulus in (2 ** (8 * size - 1), 2 ** (8 * size) - 2, modulus_of(size) - 1):
                with self.subTest(size=size, modulus=modulus):
                    self.assert_refused(key(size, 65537, modulus))

    def test_a_key_can_be_handed_in_after_a_refusal(self):
        got = ask(key_without_bytes(0, 3), key(128, 3, modulus_of(128)), numbers())
        self.assertEqual(got, [[-1], [0], held(128, modulus_of(128), 0)])
        got = ask(make_without_bytes(0, 3), key(128, 3, modulus_of(128)), numbers())
        self.assertEqual(got, [[-1], [0], held(128, modulus_of(128), 0)])
