"""Point 3, rs_prime."""

import unittest

from tests import samples
from tests.calls import NO_SIZES, SIZES, ask, held, key, make, numbers, prime, prime_without_bytes
from tests.samples import KEY_PRIMES, TWO_GREAT_PRIMES

# Each with how many rounds take it for a prime where one more doesn't.
PASSES = (
    (samples.PASSES_ONE, 1),
    (samples.PASSES_TWO, 2),
    (samples.PASSES_EIGHT, 8),
    (samples.PASSES_ELEVEN, 11),
    (samples.PASSES_TWELVE, 12),
    (samples.PASSES_THIRTEEN, 13),
    (samples.PASSES_NINETEEN, 19),
    (samples.PASSES_TWENTY, 20),
    (samples.PASSES_THIRTY_NINE, 39),
)


def is_prime(number):
    if number < 2:
        return False
    divisor = 2
    while divisor * divisor <= number:
        if number % divisor == 0:
            return False
        divisor += 1
    return True


class Taken(unittest.TestCase):
    def assert_tried(self, size, rounds, number, answer):
        self.assertEqual(ask(prime(size, rounds, number)), [[answer]])

    def assert_like_divisions(self, tried, rounds):
        for start in range(0, len(tried), 100):
            part = tried[start:start + 100]
            got = ask(*[prime(128, rounds, number) for number in part])
            self.assertEqual(got, [[int(is_prime(number))] for number in part])

    def test_below_2000(self):
        self.assert_like_divisions(list(range(2000)), 1)
        self.assert_like_divisions(list(range(200)), 40)

    def test_least_numbers(self):
        for size in SIZES:
            for number, answer in ((0, 0), (1, 0), (2, 1), (3, 1), (4, 0), (1997, 1), (1999, 1)):
                with self.subTest(size=size, number=number):
                    self.assert_tried(size, 20, number, answer)

    def test_from_2000_on(self):
        self.assert_like_divisions(list(range(2000, 4000)), 2)
        self.assert_like_divisions([1997 * 1999, 1999 * 1999, 1999 * 2003, 2003 * 2003, 2003 * 2011, 4012007], 1)

    def test_strong_bases_do_not_save_what_a_small_prime_divides(self):
        # 3215031751 is 151 times 751 times 28351; the bases 2, 3, 5 and 7 take it for a prime.
        # 15978007 is 1999 times 7993; the bases 2 and 3 take it for a prime.
        for number in (2047, 3215031751, 3474749660383, 15978007):
            for rounds in (1, 2, 4, 6):
                with self.subTest(number=number, rounds=rounds):
                    self.assert_tried(128, rounds, number, 0)

    def test_primes_above_2000_are_not_tried_as_divisors(self):
        # Base 2 takes 2003 times 66067 for a prime, base 3 doesn't.
        self.assert_tried(128, 1, 2003 * 66067, 1)
        self.assert_tried(128, 2, 2003 * 66067, 0)

    def test_what_a_prime_below_2000_divides(self):
        great_prime = 2 ** 521 - 1
        for small_prime in (2, 3, 5, 173, 179, 1009, 1993, 1997, 1999):
            for rounds in (1, 40):
                with self.subTest(small_prime=small_prime, rounds=rounds):
                    self.assert_tried(128, rounds, great_prime * small_prime, 0)

    def test_great_primes(self):
        for size, exponent in ((128, 521), (128, 607), (256, 1279), (384, 2203), (512, 3217)):
            for rounds in (1, 20):
                with self.subTest(exponent=exponent, rounds=rounds):
                    self.assert_tried(size, rounds, 2 ** exponent - 1, 1)
        self.assert_tried(128, 40, 2 ** 607 - 1, 1)

    def test_primes_with_many_halvings(self):
        for number in (12289, 65537, 7 * 2 ** 120 + 1, 5 * 2 ** 127 + 1, 3 * 2 ** 534 + 1):
            for rounds in (1, 2, 40):
                with self.subTest(number=number, rounds=rounds):
                    self.assert_tried(128, rounds, number, 1)

    def test_no_primes_with_many_halvings(self):
        # These are no primes; base 2 reaches n - 1 by squarings, base 3 never does.
        for number in (2 ** 64 + 1, 2 ** 128 + 1, 2 ** 256 + 1, 2 ** 512 + 1):
            with self.subTest(number=number):
                self.assert_tried(128, 1, number, 1)
                self.assert_tried(128, 2, number, 0)

    def test_primes_of_the_keys(self):
        for size in SIZES:
            for number in KEY_PRIMES[size]:
                with self.subTest(size=size):
                    self.assert_tried(size, 3, number, 1)

    def test_great_numbers_that_are_no_primes(self):
        for rounds in (1, 20, 40):
            with self.subTest(rounds=rounds):
                self.assert_tried(128, rounds, TWO_GREAT_PRIMES, 0)
                for size in SIZES:
                    first, second = KEY_PRIMES[size]
                    self.assert_tried(size, rounds, first * second, 0)

    def test_the_greatest_number(self):
        for size in SIZES:
            self.assert_tried(size, 1, 2 ** (8 * size) - 1, 0)

    def test_the_number_of_rounds_tells(self):
        for number, passes in PASSES:
            for rounds in sorted({1, passes - 1, passes, passes + 1, 40}):
                if rounds == 0:
                    continue
                with self.subTest(number=number, rounds=rounds):
                    self.assert_tried(128, rounds, number, int(rounds <= passes))

    def test_forty_rounds_are_all(self):
        for rounds in (1, 39, 40):
            self.assert_tried(128, rounds, samples.PASSES_FORTY, 1)

    def test_the_size_does_not_change_the_answer(self):
        for size in SIZES:
            self.assert_tried(size, 8, samples.PASSES_EIGHT, 1)
            self.assert_tried(size, 9, samples.PASSES_EIGHT, 0)


class Refusals(unittest.TestCase):
    def test_no_such_size(self):
        for size in NO_SIZES:
            with self.subTest(size=size):
                self.assertEqual(ask(prime_without_bytes(size, 20)), [[-1]])

    def test_rounds_out_of_range(self):
        for rounds in (-2147483648, -40, -1, 0, 41, 42, 2147483647):
            for number in (0, 7, 8, 2 ** 521 - 1):
                with self.subTest(rounds=rounds, number=number):
                    self.assertEqual(ask(prime(128, rounds, number)), [[-1]])

    def test_neither_size_nor_rounds(self):
        self.assertEqual(ask(prime_without_bytes(0, 0)), [[-1]])


class TheKeyStays(unittest.TestCase):
    def test_with_a_key(self):
        first, second = KEY_PRIMES[128]
        got = ask(
            key(128, 3, first * second), prime(128, 1, 7), prime(256, 41, 7), prime_without_bytes(5, 1),
            prime(512, 1, 8), numbers(),
        )
        self.assertEqual(got, [[0], [1], [-1], [-1], [0], held(128, first * second, 0)])

    def test_with_a_made_key(self):
        first, second = KEY_PRIMES[128]
        got = ask(make(128, 3, first, second), numbers(), prime(128, 0, 7), prime(128, 1, 7), numbers())
        self.assertEqual(got[1], got[4])

    def test_without_a_key(self):
        self.assertEqual(ask(prime(128, 1, 7), numbers()), [[1], [-2]])
