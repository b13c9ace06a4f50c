"""Sums: H (SHA-256) and masks."""

import hashlib
import math
import unittest

from greatkeys.sums import FIRST_WORDS, ROUND_NUMBERS, mask_of, sum_of

# Of the standard's own examples.
KNOWN = {
    b"": "e3b0c44298fc1c149afbf4c8996fb92427ae41e4649b934ca495991b7852b855",
    b"abc": "ba7816bf8f01cfea414140de5dae2223b00361a396177a9cb410ff61f20015ad",
    b"abcdbcdecdefdefgefghfghighijhijkijkljklmklmnlmnomnopnopq":
        "248d6a61d20638b8e5c026930c3e6039a33ce45964ff2167f6ecedd419db06c1",
}


def first_primes(many):
    found = []
    number = 2
    while len(found) < many:
        if all(number % prime for prime in found):
            found.append(number)
        number += 1
    return found


def cube_root(number):
    """The greatest whole number whose cube isn't above the number."""
    low, high = 0, number
    while low < high:
        middle = (low + high + 1) // 2
        if middle ** 3 <= number:
            low = middle
        else:
            high = middle - 1
    return low


def some_bytes(length):
    return bytes((7 * place + place // 256 + length) % 256 for place in range(length))


class Tables(unittest.TestCase):
    def test_bits_behind_the_point_of_the_square_roots(self):
        expected = [math.isqrt(prime << 64) % 2 ** 32 for prime in first_primes(8)]
        self.assertEqual(list(FIRST_WORDS), expected)

    def test_bits_behind_the_point_of_the_cube_roots(self):
        expected = [cube_root(prime << 96) % 2 ** 32 for prime in first_primes(64)]
        self.assertEqual(list(ROUND_NUMBERS), expected)


class Sums(unittest.TestCase):
    def assert_sum(self, message):
        self.assertEqual(bytes(sum_of(list(message))).hex(), hashlib.sha256(message).hexdigest())

    def test_known_sums(self):
        for message, expected in KNOWN.items():
            with self.subTest(message=message):
                self.assertEqual(bytes(sum_of(list(message))).hex(), expected)

    def test_lengths_round_the_blocks_ends(self):
        for length in (0, 1, 2, 54, 55, 56, 57, 62, 63, 64, 65, 118, 119, 120, 121, 127, 128, 129, 183, 184):
            with self.subTest(length=length):
                self.assert_sum(some_bytes(length))

    def test_a_byte_of_each_value(self):
        for byte in range(256):
            self.assert_sum(bytes([byte]))

    def test_great_and_small_bytes(self):
        for length in (1, 55, 56, 64, 200):
            for byte in (0, 1, 127, 128, 255):
                with self.subTest(length=length, byte=byte):
                    self.assert_sum(bytes([byte]) * length)

    def test_a_length_of_more_than_two_bytes_in_bits(self):
        for length in (8191, 8192, 8193):
            with self.subTest(length=length):
                self.assert_sum(some_bytes(length))

    def test_several_thousand_bytes(self):
        for length in (3000, 5000, 29000):
            with self.subTest(length=length):
                self.assert_sum(some_bytes(length))

    def test_the_message_is_not_changed(self):
        message = list(b"as it was")
        sum_of(message)
        self.assertEqual(message, list(b"as it was"))


class Masks(unittest.TestCase):
    SEED = some_bytes(32)

    def whole(self, seed, turns):
        return b"".join(hashlib.sha256(seed + turn.to_bytes(4, "big")).digest() for turn in range(turns))

    def test_fewer_bytes_than_one_sum(self):
        for size in (0, 1, 31):
            with self.subTest(size=size):
                self.assertEqual(bytes(mask_of(list(self.SEED), size)), self.whole(self.SEED, 1)[:size])

    def test_just_one_sum(self):
        self.assertEqual(bytes(mask_of(list(self.SEED), 32)), self.whole(self.SEED, 1))

    def test_more_than_one_sum(self):
        for size in (33, 63, 64, 65, 95, 223, 351, 479):
            with self.subTest(size=size):
                self.assertEqual(bytes(mask_of(list(self.SEED), size)), self.whole(self.SEED, 16)[:size])

    def test_the_count_has_four_bytes(self):
        self.assertEqual(bytes(mask_of(list(self.SEED), 32 * 258)), self.whole(self.SEED, 258))

    def test_seeds_of_other_lengths(self):
        for length in (0, 1, 51, 52, 64, 479):
            with self.subTest(length=length):
                seed = some_bytes(length)
                self.assertEqual(bytes(mask_of(list(seed), 100)), self.whole(seed, 4)[:100])

    def test_the_seed_is_not_changed(self):
        seed = list(self.SEED)
        mask_of(seed, 100)
        self.assertEqual(bytes(seed), self.SEED)
